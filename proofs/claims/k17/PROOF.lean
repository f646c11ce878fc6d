import PyProof.Rows.All
import Wide.All
import OpenK.AllK
import Wide.FinOn
import HandS.ForMost
import HandS.IsInst
import HandS.AnyAll
import HandS.Walk
import HandS.Flow
import HandS.Style
import HandS.TupAny
import HandS.Evl
import KE.GoesMore
import KE.GoesEnum
import KE.KRevSl
import HandS.EndOwn
import HandS.GenList
import HandS.Nested
import HandS.More
import HandS.SortOrd
import HandS.SortRule
import HandS.DictComp
import HandS.Conv
import HandS.Records
import HandS.WordsDict
import KE.DataEq
import HandS.SortInts
import HandS.SortKw
import KE.SortData
import HandS.Zip
import KE.GoesZip
import HandS.ListItems
import HandS.SetFor
import HandS.Deep
import HandS.TupMul
import KE.KDictKeyed
import KE.KDictDisplayH
import KE.KDictCopyH
import KE.KDictSum
import KE.DataMinMax
import HandS.Strs
import HandS.Lambda
import PySem.Challenge.RW_wornrigs_k17_whole_best_trees
set_option Elab.async false
set_option linter.all false
set_option maxRecDepth 100000
set_option maxHeartbeats 2000000
namespace Wr
open PySem PySem.Spec PyProof.Rows L2

/-! ### heaps: all that was tracked stays, tables may grow -/
def NoT (o : HO) : Prop := ∀ ps, o ≠ .tbl ps
structure Le (H H' : Hp) : Prop where
  keep : ∀ b o, H b = some o → NoT o → H' b = some o
  tab : ∀ P, GxR.TabG H P → GxR.TabG H' P
  dom : ∀ b, H' b = none → H b = none
theorem Le.refl (H : Hp) : Le H H := ⟨fun _ _ h _ => h, fun _ h => h, fun _ h => h⟩
theorem Le.trans {H H1 H2 : Hp} (a : Le H H1) (b : Le H1 H2) : Le H H2 := ⟨fun c o h n => b.keep c o (a.keep c o h n) n, fun P h => b.tab P (a.tab P h), fun c h => a.dom c (b.dom c h)⟩
theorem Le.mut {H H1 : Hp} {p : Addr} {o : HO} (a : Le H H1) (h : H p = none) : Le H (upd H1 p o) := by
  refine ⟨fun b u e n => ?_, fun P ⟨ps, hp, ht⟩ => ?_, fun b e => ?_⟩
  · rw [upd_ne (ne_of_none e h)]
    exact a.keep b u e n
  · obtain ⟨ps', hp', ht'⟩ := a.tab P ⟨ps, hp, ht⟩
    exact ⟨ps', by rw [upd_ne (ne_of_none hp h)]; exact hp', ht'⟩
  · by_cases hb : b = p
    · rw [hb]
      exact h
    · rw [upd_ne hb] at e
      exact a.dom b e
theorem Le.new {H : Hp} {p : Addr} {o : HO} (h : H p = none) : Le H (upd H p o) := (Le.refl H).mut h
theorem Le.tabbed {P : Addr} {H H1 : Hp} (t : GxR.Tabbed P H H1) (h : GxR.TabG H P) : Le H H1 := by
  obtain ⟨t1, t2⟩ := t
  obtain ⟨ps, hp, ht⟩ := h
  refine ⟨fun b u e n => ?_, fun Q hQ => ?_, fun b e => ?_⟩
  · by_cases hb : b = P
    · rw [hb, hp] at e
      cases e
      exact absurd rfl (n ps)
    · rw [t2 b hb]
      exact e
  · by_cases hb : Q = P
    · rw [hb]
      exact t1
    · obtain ⟨qs, hq, hqt⟩ := hQ
      exact ⟨qs, by rw [t2 Q hb]; exact hq, hqt⟩
  · by_cases hb : b = P
    · obtain ⟨qs, hq, _⟩ := t1
      rw [hb, hq] at e
      cases e
    · rw [← t2 b hb]
      exact e
theorem not_lst {xs : List V} : NoT (.lst xs) := fun _ e => by cases e
theorem not_tup {xs : List V} : NoT (.tup xs) := fun _ e => by cases e
theorem not_dK {xs : List (Key × V)} : NoT (.dK xs) := fun _ e => by cases e
theorem not_frz {o : Obj} {u : HO} : NoT (.frz o u) := fun _ e => by cases e
section
variable {K : PySem.W.Frag} {H H' : Hp} {a : Addr} {xs : List V}
theorem Le.lst (e : Le H H') (h : H a = some (.lst xs)) : H' a = some (.lst xs) := e.keep _ _ h not_lst
theorem Le.tup (e : Le H H') (h : H a = some (.tup xs)) : H' a = some (.tup xs) := e.keep _ _ h not_tup
theorem Le.sql (e : Le H H') (h : SqL K H a xs) : SqL K H' a xs := by
  rcases h with (h | ⟨o, h⟩) | h
  · exact .inl (.inl (e.keep _ _ h not_lst))
  · exact .inl (.inr ⟨o, e.keep _ _ h not_frz⟩)
  · exact .inr h
theorem Le.sqt (e : Le H H') (h : SqT K H a xs) : SqT K H' a xs := by
  rcases h with (h | ⟨o, h⟩) | h
  · exact .inl (.inl (e.keep _ _ h not_tup))
  · exact .inl (.inr ⟨o, e.keep _ _ h not_frz⟩)
  · exact .inr h
theorem sql (h : H a = some (.lst xs)) : SqL K H a xs := .inl (.inl h)
theorem sqt (h : H a = some (.tup xs)) : SqT K H a xs := .inl (.inl h)
end
mutual
theorem Le.dp {K : PySem.W.Frag} {H H' : Hp} (e : Le H H') : ∀ {v : V} {d : PyData}, Dp K H v d → Dp K H' v d
  | _, _, .non => .non
  | _, _, .bl b => .bl b
  | _, _, .int i => .int i
  | _, _, .str x => .str x
  | _, _, .lst h r => .lst (e.sql h) (Le.dpAll e r)
  | _, _, .tup h r => .tup (e.sqt h) (Le.dpAll e r)
theorem Le.dpAll {K : PySem.W.Frag} {H H' : Hp} (e : Le H H') : ∀ {vs : List V} {ds : List PyData}, DpAll K H vs ds → DpAll K H' vs ds
  | _, _, .nil => .nil
  | _, _, .cons h r => .cons (Le.dp e h) (Le.dpAll e r)
end
/-! ### a def whose code object is known -/
structure FunC (K : PySem.W.Frag) (x qual : Str) (st : Stmt) (f : Addr) (fd : FuncData) (c : Addr) : Prop where
  ex : ∃ (oc : Value) (od : Option Addr) (kV doc pm : Value) (an : Option Addr) (ct : Value) (osl : Array (Option Value)),
    fd = PySem.W.fnOf x qual (defArgs st) (defBody st) (defScope st) .none kV doc pm an (.ref c) ct ∧ K.lookup f = some ⟨oc, od, .func fd, osl⟩ ∧ PySem.W.codeIn K (.ref c) qual = true
theorem FunC.ok {P : Program} {w : World} {K : PySem.W.Frag} {mg : Str → Option Value} {base : Heap} {x qual : Str} {st : Stmt} {f c : Addr} {fd : FuncData} {N ps : List Str} {k : Nat} {sp : Sp}
    (F : FunC K x qual st f fd c) (S : FnScope N ps (defScope st)) (len : ∀ vs H Q E, sp vs H Q E → vs.length = ps.length)
    (hbody : ∀ (A : Around) (outer : List Env) (s : Shared) (H : Hp) (vs : List V) (Q : VK) (E : XK), Room k (A.deeper (envOfC qual (defScope st) s.heap.objs.size f (.ref c))) → sp vs H Q E →
      ∃ t, PSs (cxOf CX0 P w K mg base N qual (defScope st) f (.ref c) A outer s H E).nox (defBody st) t ∧ t { nx := fun _ H' => Q .non H', rt := Q } (start N vs) H) :
    FnOk P w K mg base CX0 (k + 1) f fd ps sp := by
  obtain ⟨oc, od, kV, doc, pm, an, ct, osl, rfl, lk, hcd⟩ := F.ex
  exact fn_of lk hcd S len fun A outer s H vs Q E hr hsp => let ⟨t, h, q⟩ := hbody A outer s H vs Q E hr hsp; ⟨t, h.nox, q⟩
/-! ### small things -/
theorem sz {n : Nat} (h : n ≤ 100000) : n ≤ sizeLine := Nat.le_trans h (by decide)
theorem szlt {n : Nat} (h : n < 100000) : n < sizeLine := Nat.lt_of_lt_of_le h (by decide)
/-- an item at an int that lies in the list -/
theorem atI_in {α : Type} {xs : List α} {i : Int} (h0 : 0 ≤ i) (h1 : i < xs.length) : ∃ v, v ∈ xs ∧ xs[i.toNat]? = some v ∧ atI xs i = some v := by
  have hi : i.toNat < xs.length := by omega
  refine ⟨xs[i.toNat], List.getElem_mem hi, List.getElem?_eq_getElem hi, ?_⟩
  have q := atI_nat (xs := xs) (j := i.toNat) (v := xs[i.toNat]) (List.getElem?_eq_getElem hi)
  rw [show ((i.toNat : Nat) : Int) = i by omega] at q
  exact q
theorem atI_ints {ns : List Int} {i : Int} (h0 : 0 ≤ i) (h1 : i < ns.length) : ∃ n, n ∈ ns ∧ ns[i.toNat]? = some n ∧ atI (ns.map V.int) i = some (.int n) := by
  have hi : i.toNat < ns.length := by omega
  refine ⟨ns[i.toNat], List.getElem_mem hi, List.getElem?_eq_getElem hi, ?_⟩
  have q := atI_nat (xs := ns.map V.int) (j := i.toNat) (v := .int ns[i.toNat]) (by rw [List.getElem?_map, List.getElem?_eq_getElem hi]; rfl)
  rw [show ((i.toNat : Nat) : Int) = i by omega] at q
  exact q
end Wr

set_option Elab.async false
set_option linter.all false
set_option maxRecDepth 100000
set_option maxHeartbeats 2000000
namespace Wr
open PySem PySem.Spec PyProof.Rows L2
/-! ### xs.extend(t), t a tuple -/
theorem ext_tup (l b : Addr) (mine more : Array Value) (n n2 : Nat) (o : Obj) (hc : o.cls = .type "tuple") (hd : o.data = .seq more n2) (hz : mine.size + more.size ≤ sizeLine) :
    Meets (Builtin.«list.extend» ⟨[.ref l, .ref b], []⟩) (fun _ R s => s.heap.get? l = some { cls := .type "list", data := .seq mine n } ∧ s.heap.get? b = some o ∧ R (.ok (.ret .none)) { s with heap := s.heap.update l (Obj.mapSeq (· ++ more)) }) := by
  refine .of_wp fun prog w A R s h => ?_
  obtain ⟨hl, hb, hR⟩ := h
  show wpAny _ _ (Builtin.List.listExtendWith (.ref l) (.ref b) .none) _ _ s
  unfold Builtin.List.listExtendWith
  refine wpAny_bind (wpAny_typeOf ⟨o, hb, hc⟩ ?_)
  have same : (Builtin.List.listSameRef (.ref l) (.ref b) || Value.type "tuple" == Value.type "list" || Value.type "tuple" == Value.type "tuple") = true := by simp
  simp only [same, if_true]
  refine wpAny_bind ?_
  unfold Builtin.List.listItems
  refine wpAny_bind (wpAny_seqItems hb hd (wpAny_pure ?_))
  refine wpAny_bind ?_
  refine wpAny_bind (wpAny_seqItems hl rfl (wpAny_pure ?_))
  have door : (!mine.isEmpty && Builtin.List.listTooLong (mine.size + more.size)) = false := by rw [notLongL hz, Bool.and_false]
  simp only [door]
  show wpAny _ _ (updateSeq l (· ++ more) >>= fun _ => ret .none) _ _ s
  refine wpAny_bind (wpAny_updateSeq hl rfl ?_ (by omega) (by rw [Array.size_append]; omega))
  exact wpAny_pure ⟨_, rfl, hR⟩
def rExtT (K : PySem.W.Frag) : V → List V → Hp → VK → Prop := fun x vs H Q => ∃ l b xs zs, x = .ref l ∧ vs = [.ref b] ∧ H l = some (.lst xs) ∧ SqT K H b zs ∧ xs.length + zs.length ≤ sizeLine ∧ Q .non (upd H l (.lst (xs ++ zs)))
theorem mt_extT {X : Cx} : MtM X "list.extend" (rExtT X.K) := by
  intro pins s σ H x vs v us Q I rx rv h
  obtain ⟨l, b, xs, zs, rfl, rfl, hH, hB, hz, q⟩ := h
  cases rx
  obtain ⟨u, rfl, ru⟩ := rv.one
  cases ru
  obtain ⟨_, mine, n, r, hl, e⟩ := I.lstM hH
  obtain ⟨more, r2, ⟨o, ho, hc, n2, hd⟩, _⟩ := I.tuple hB
  have hl2 := r2.length
  refine call_meets F.slot_list_extend ⟨_, e, rfl⟩ F.entry_list_extend (F.args_list_extend_2 _ _) (ext_tup l b mine.toArray more.toArray n n2 o hc hd (by rw [List.size_toArray, List.size_toArray]; omega)) ⟨e, ho, ?_⟩
  exact ⟨.non, _, I.lset (its' := mine ++ more) hH e (by simp) (r.append r2) (by rw [List.length_append]; omega), rfl, q⟩
end Wr

set_option Elab.async false
set_option linter.all false
set_option maxRecDepth 100000
set_option maxHeartbeats 3200000
namespace Wr
open PySem PySem.Spec PyProof.Rows
/-! ### set(xs) of a list of keys of one kind, with or without repeats -/
section
variable {α : Type} [DecidableEq α]
/-- the first i keys, each once -/
def met (f : Nat → α) : Nat → List α
  | 0 => []
  | i + 1 => if f i ∈ met f i then met f i else met f i ++ [f i]
theorem met_len (f : Nat → α) : ∀ i, (met f i).length ≤ i
  | 0 => Nat.le_refl _
  | i + 1 => by
    have ih := met_len f i
    rw [met]
    split
    · omega
    · rw [List.length_append, List.length_singleton]
      omega
theorem met_any (f : Nat → α) (i : Nat) (x : α) : (decide (x ∈ met f i) || decide (x = f i)) = decide (x ∈ met f (i + 1)) := by
  rw [Bool.eq_iff_iff, Bool.or_eq_true, decide_eq_true_iff, decide_eq_true_iff, decide_eq_true_iff, met]
  split
  · rename_i h
    exact ⟨fun z => z.elim (fun z => z) fun z => by rw [z]; exact h, .inl⟩
  · rw [List.mem_append, List.mem_singleton]
theorem met_cnt (f : Nat → α) (i : Nat) : (if decide (f i ∈ met f i) = true then (met f i).length else (met f i).length + 1) = (met f (i + 1)).length := by
  rw [met]
  by_cases h : f i ∈ met f i
  · rw [if_pos h, if_pos (decide_eq_true h)]
  · rw [if_neg h, if_neg (by rw [decide_eq_false h]; decide), List.length_append, List.length_singleton]
end
section
variable {pr : Program} {w : World} {α : Type} [DecidableEq α] {A : Around} {R : Result → Shared → Prop} {J : Addr} {fp wr : List Addr} {Gn : Array GenState → Array GenState → Prop} {n : Nat} {Py : Nat → Value → Prop} {St : Nat → Shared → Prop}
theorem set_fill (kd : KeyKind pr w α) (W : WalksS pr w A.in1 J fp wr Gn n Py St) (D : Addr) (hD : D ∉ fp) (f : Nat → α) (hf : ∀ i v, Py i v → kd.is (f i) v = true ∧ v.scannable = true) (hb : n + 1 < scanBound) :
    ∀ (m i : Nat) (s : Shared), n - i = m → i ≤ n → St i s → s.heap.SetOf kd D (fun x => decide (x ∈ met f i)) (met f i).length →
      (∀ s', Moved (D :: wr) Gn s s' → s'.heap.SetOf kd D (fun x => decide (x ∈ met f n)) (met f n).length → R (.ok (.ret .none)) s') →
      codeAny (model pr w) A (.builtin "set.update.loop" ⟨[.ref D, .ref J], []⟩) R s := by
  have nw : D ∉ wr := fun z => hD (W.sub _ z)
  have up : ∀ b ∈ wr, b ∈ D :: wr := fun b z => List.mem_cons_of_mem _ z
  intro m
  induction m with
  | zero =>
    intro i s e0 hi hst hS hR
    obtain rfl : i = n := by omega
    refine codeAny_builtin PyProof.Rows.F.entry_set_update_loop ?_; rw [Around.under_plainId PyProof.Rows.F.plain_set_update_loop _]
    show wpAny _ A.in1 (pyNext (.ref J) >>= _) _ _ s
    refine wpAny_bind (W.done s _ _ hst fun s1 mv => ?_)
    show wpAny _ A.in1 (ret Value.none) _ _ s1
    refine wpAny_pure (hR s1 (mv.mono up) ?_)
    obtain ⟨ob, es, ep, tb, g1, more⟩ := hS
    exact ⟨ob, es, ep, tb, mv.heap D _ nw g1, more⟩
  | succ m ih =>
    intro i s e0 hi hst hS hR
    have lt : i < n := by omega
    refine codeAny_builtin PyProof.Rows.F.entry_set_update_loop ?_; rw [Around.under_plainId PyProof.Rows.F.plain_set_update_loop _]
    show wpAny _ A.in1 (pyNext (.ref J) >>= _) _ _ s
    refine wpAny_bind (W.item i s _ _ lt hst fun v s1 hv st1 mv => ?_)
    obtain ⟨kv, sv⟩ := hf i v hv
    have hS1 : s1.heap.SetOf kd D (fun x => decide (x ∈ met f i)) (met f i).length := by
      obtain ⟨ob, es, ep, tb, g1, more⟩ := hS
      exact ⟨ob, es, ep, tb, mv.heap D _ nw g1, more⟩
    show wpAny _ A.in1 (holding [v] (setAdd D v) >>= _) _ _ s1
    refine wpAny_bind (wpAny_holding ?_)
    unfold setAdd
    refine wpAny_holding (wpAny_bind (kd.pyHash kv ?_))
    refine wpAny_setAddHashed_of (knd := kd) (s := { s1 with toks := s1.toks + 1 }) kv sv hS1 (by have := met_len f i; omega) fun h2 sb hS2 => ?_
    have hS3 : h2.SetOf kd D (fun x => decide (x ∈ met f (i + 1))) (met f (i + 1)).length := by
      rw [met_cnt] at hS2
      have e : (fun x => decide (x ∈ met f i) || decide (x = f i)) = fun x => decide (x ∈ met f (i + 1)) := funext fun x => met_any f i x
      rw [e] at hS2
      exact hS2
    refine wpAny_pure ⟨plainId_quiet PyProof.Rows.F.plain_set_update_loop _, ih (i + 1) _ (by omega) lt (W.frame _ s1 _ _ st1 (Nat.le_succ _) fun b hb o e => ?_) hS3 fun s9 mv9 hS9 => ?_⟩
    · rw [sb.2 b fun z : b = D => hD (z ▸ hb)]
      exact e
    · refine hR s9 (Moved.trans W.gtrans ((mv.mono up).then_heap (Nat.le_succ _) fun b o hb e => ?_) mv9) hS9
      rw [sb.2 b fun z : b = D => hb (by rw [z]; exact List.mem_cons_self)]
      exact e
end
section
variable {pr : Program} {w : World} {α : Type} [DecidableEq α] {A : Around} {E : Value → Shared → Prop} {s : Shared}
/-- the empty set as it is made -/
abbrev set0 (z : Bool) : Obj := { cls := .type "set", dict := none, data := .set #[] 0 (.fresh 0 0 z) }
theorem set_call (kd : KeyKind pr w α) {l : Addr} {its : Array Value} {Q : Value → Shared → Prop} (f : Nat → α) (hh : A.handled = none) (hl : s.heap.IsList l its) (hf : ∀ i v, its[i]? = some v → kd.is (f i) v = true ∧ v.scannable = true) (hb : its.size + 1 < scanBound)
    (h : ∀ (h2 : Heap) (tk : Nat), h2.SetOf kd s.heap.objs.size (fun x => decide (x ∈ met f its.size)) (met f its.size).length →
      (∀ b o, b < s.heap.objs.size → s.heap.get? b = some o → h2.get? b = some o) → Q (.ref s.heap.objs.size) { s with heap := h2, toks := tk }) :
    wpAny (model pr w) A (call (.type "set") [.ref l]) Q E s := by
  obtain ⟨c0, tl, q0⟩ := PySem.F.called_set.mro
  have q1 := PySem.F.called_set.made
  have q2 := PySem.F.called_set.sub
  refine wpAny_call (codeAny_of_tree ?_)
  show wpAny _ _ (callAny (.type "set") _) _ _ _
  refine wpAny_pure ⟨Code.quiet_builtin _ (by decide +kernel), codeAny_builtin PySem.F.entry_type_call ?_⟩; rw [Around.under_plain (weight_type_call_type "set" [.ref l] []) rfl]
  have q3 := PySem.F.called_set.notType
  have q4 := PySem.F.called_set.canCreate
  have q5 := PySem.F.typeCall_set_1 (.ref l)
  repeat (any_goals (first | assumption | wp_step))
  refine codeAny_mono (code_set_new_1 (.ref l) (E := E) (Q₁ := fun ob s1 => ∃ z : Bool, ob = .ref s.heap.objs.size ∧ s1 = { s with heap := s.heap.push (set0 z) }) fun z => ⟨z, rfl, rfl⟩) fun r s1 hr => ?_
  cases r with
  | error e => exact hr
  | ok fl =>
    cases fl with
    | ret ob =>
      obtain ⟨z, rfl, rfl⟩ := hr
      have g0 : (s.heap.push (set0 z)).get? s.heap.objs.size = some (set0 z) := Heap.get?_push_size _ rfl
      have ty : Shared.TypeIs { s with heap := s.heap.push (set0 z) } (.ref s.heap.objs.size) "set" := ⟨_, g0, rfl⟩
      have q6 := PySem.F.called_set.init.lookup
      have q7 := PySem.F.called_set.init.bind (.ref s.heap.objs.size)
      repeat (any_goals (first | assumption | wp_step))
      refine codeAny_mono (codeAny_call_builtin (R := wants (fun r s2 => r = .none ∧ ∃ h2 tk, s2 = { s with heap := h2, toks := tk } ∧ h2.SetOf kd s.heap.objs.size (fun x => decide (x ∈ met f its.size)) (met f its.size).length ∧
          (∀ b o, b < s.heap.objs.size → s.heap.get? b = some o → h2.get? b = some o)) E) PySem.F.called_set.init.plain PySem.F.entry_set_init (check_set_init_1 ty ?_)) fun r2 s2 hr2 => ?_
      · obtain ⟨ol, go, cl, nl, dl⟩ := hl
        obtain ⟨ocls, odict, odata, oslots⟩ := ol
        simp only at cl dl
        subst cl; subst dl
        have go2 : (s.heap.push (set0 z)).get? l = some { cls := .type "list", dict := odict, data := .seq its nl, slots := oslots } := Heap.get?_push_of_some _ go
        have q8 := PySem.F.sub_list_set
        have q9 := PySem.F.sub_list_frozenset
        have nd : (Value.type "list" == Value.type "dict") = false := by decide
        have hl1 : (s.heap.push (set0 z)).IsList l its := ⟨_, go2, rfl, nl, rfl⟩
        unfold Builtin.«set.__init__» noKeywords Builtin.Frozenset.updateFrom
        generalize hPI : pyIter = PI
        wp_walk
        subst hPI
        refine wpAny_pyIter_list hl1 (wpAny_bind (wpAny_runValue ?_))
        have ll : l < s.heap.objs.size := Heap.lt_size go
        have h3 : A.in1.in1.in1.handled = none := by simp [hh]
        have nI : l ≠ (s.heap.push (set0 z)).objs.size := by rw [Heap.size_push]; exact Nat.ne_of_lt (Nat.lt_succ_of_lt ll)
        have nf : s.heap.objs.size ∉ [(s.heap.push (set0 z)).objs.size, l] := by
          rw [Heap.size_push]
          intro y
          rcases List.mem_cons.mp y with y | y
          · exact Nat.ne_of_lt (Nat.lt_succ_self _) y
          · exact Nat.ne_of_gt ll (List.mem_singleton.mp y)
        refine set_fill kd ((Walks.list h3 _ l nI its).toS) s.heap.objs.size nf f hf hb (its.size - 0) 0 _ (by omega) (Nat.zero_le _) ⟨⟨_, Heap.get?_push_size _ rfl, rfl, rfl⟩, (hl1.push _)⟩ ?z0 ?zR
        case z0 =>
          have gg : ((s.heap.push (set0 z)).push { cls := .type "list_iterator", data := .fields #[.ref l, .int 0 0] }).get? s.heap.objs.size = some (set0 z) := Heap.get?_push_of_some _ g0
          have e0 : (fun x : α => decide (x ∈ met f 0)) = fun _ => false := funext fun x => rfl
          rw [e0]
          exact (PyProof.Rows.setObjOf_fresh (knd := kd) z).setOf gg (by unfold scanBound; omega)
        case zR =>
          intro s9 mv hS9
          obtain ⟨h9, g9, d9, t9, o9⟩ := s9
          have e1 : g9 = s.gens := mv.gens
          have e2 : d9 = s.drawn := mv.drawn
          have e3 : o9 = s.os := mv.os
          subst e1; subst e2; subst e3
          show wpAny _ _ _ _ _ _
          refine wpAny_pure ?_
          show wpAny _ _ (ret Value.none) _ _ _
          refine wpAny_pure ⟨rfl, h9, t9, rfl, hS9, fun b o hb e => ?_⟩
          refine mv.heap b o (fun y => ?_) (Heap.get?_push_of_some _ (Heap.get?_push_of_some _ e))
          rcases List.mem_cons.mp y with y | y
          · exact Nat.ne_of_lt hb y
          · rw [List.mem_singleton.mp y, Heap.size_push] at hb
            exact Nat.lt_irrefl _ (Nat.lt_of_lt_of_le hb (Nat.le_succ _))
      · cases r2 with
        | error e => exact hr2
        | ok f2 =>
          cases f2 with
          | ret r =>
            obtain ⟨rfl, h2, tk, rfl, hS, hk⟩ := hr2
            repeat (any_goals (first | assumption | wp_step))
            exact h _ _ hS hk
          | _ => exact hr2.elim
    | _ => exact hr.elim
end
end Wr

set_option Elab.async false
set_option linter.all false
set_option maxRecDepth 100000
set_option maxHeartbeats 2000000
namespace Wr
open PySem PySem.Spec PyProof.Rows L2
/-! ### len(set(xs)), xs a list of texts -/
def once (xs : List Str) : List Str := met (fun i => xs.getD i Str.empty) xs.length
theorem met_nd {α : Type} [DecidableEq α] (f : Nat → α) : ∀ i, (met f i).length = i ↔ ((List.range i).map f).Nodup
  | 0 => ⟨fun _ => List.nodup_nil, fun _ => rfl⟩
  | i + 1 => by
    have ih := met_nd f i
    have mem : ∀ j x, x ∈ met f j ↔ x ∈ (List.range j).map f := by
      intro j
      induction j with
      | zero => exact fun x => Iff.rfl
      | succ j ihj =>
        intro x
        rw [List.range_succ, List.map_append, List.map_singleton, List.mem_append, List.mem_singleton, ← ihj x, met]
        split
        · rename_i h
          exact ⟨.inl, fun z => z.elim (fun z => z) fun z => by rw [z]; exact h⟩
        · rw [List.mem_append, List.mem_singleton]
    rw [List.range_succ, List.map_append, List.map_singleton, List.nodup_append, ← ih, met]
    have hle := met_len f i
    by_cases h : f i ∈ met f i
    · rw [if_pos h]
      constructor
      · intro z
        omega
      · intro ⟨_, _, z⟩
        exact absurd rfl (z (f i) ((mem i _).mp h) (f i) (by simp))
    · rw [if_neg h, List.length_append, List.length_singleton]
      constructor
      · intro z
        refine ⟨by omega, List.nodup_cons.mpr ⟨by simp, List.nodup_nil⟩, fun a ha b hb e => h ((mem i _).mpr ?_)⟩
        rw [← List.mem_singleton.mp hb, ← e]
        exact ha
      · intro ⟨z, _⟩
        omega
theorem once_nd (xs : List Str) : (once xs).length = xs.length ↔ xs.Nodup := by
  unfold once
  rw [met_nd]
  have e : (List.range xs.length).map (fun i => xs.getD i Str.empty) = xs := by
    apply List.ext_getElem
    · simp
    · intro i h1 h2
      simp [h2]
  rw [e]
def tLenSetT (K : PySem.W.Frag) (ta : TE) : TE := fun σ H Q => ta σ H fun x H1 => ∃ (l : Addr) (xs : List Str), x = .ref l ∧ SqL K H1 l (xs.map V.str) ∧ xs.length ≤ 1000 ∧ Q (.int (once xs).length) H1
theorem pe_lenSetT {X : Cx} {a : Expr} {ta : TE} {p1 p2 p3 p4 : Pos} (hc : X.calm = true) (hg : Gl X "len") (hm : X.mg "len" = none) (hg2 : Gl X "set") (hm2 : X.mg "set" = none) (ha : PE X a ta)
    (na : starEach [a] X.env = (false, eval a X.env) :: starEach [] X.env := by rfl) : PE X (.Call (.Name "len" p1) [.Call (.Name "set" p2) [a] [] p3] [] p4) (tLenSetT X.K ta) := by
  refine ⟨fun pins s σ H Q I h => ?_⟩
  refine Call_ (ld_blt I hg hm boot_len (PyProof.Rows.callWith_builtin1 (PyProof.Rows.args_cons ?_ rfl) rfl rfl))
  refine Call_ (ld_blt I hg2 hm2 boot_set (PyProof.Rows.callWith_type1 (PyProof.Rows.args_cons (thn (ha.run pins s σ H _ I h) fun v s1 ⟨x, H1, I1, r1, q1⟩ => PyProof.Rows.args_nil ?_) na) na rfl))
  obtain ⟨l, xs, rfl, hq, hlen, q1⟩ := q1
  cases r1
  obtain ⟨its, r, pl, _⟩ := I1.list hq
  have e0 : its.toArray.size = xs.length := by rw [List.size_toArray, ← r.length, List.length_map]
  have at_ : ∀ (i : Nat) (v : Value), its.toArray[i]? = some v → (PySem.strKind X.prog X.w).is (xs.getD i Str.empty) v = true ∧ v.scannable = true := fun i v hv => by
    have hi : i < its.toArray.size := by
      obtain ⟨hi, _⟩ := Array.getElem?_eq_some_iff.mp hv
      exact hi
    rw [e0] at hi
    have g : (xs.map V.str)[i]? = some (.str xs[i]) := by rw [List.getElem?_map, List.getElem?_eq_getElem hi]; rfl
    obtain ⟨u, hu, t, rfl⟩ := r.get g
    have hv2 : its[i]? = some v := by simpa using hv
    rw [hu] at hv2
    cases hv2
    rw [List.getD_eq_getElem?_getD, List.getElem?_eq_getElem hi]
    exact ⟨strKind_is _ _ _ _, rfl⟩
  refine set_call (PySem.strKind X.prog X.w) (fun i => xs.getD i Str.empty) (I1.ok.hd hc) pl.isList at_ (by rw [e0]; unfold scanBound; omega) fun h2 tk hS hk => ?_
  refine PyProof.Rows.args_nil ?_
  rw [e0] at hS
  obtain ⟨ob, es, ep, tb, g1, ex, gd, _, _, _, ft, hn⟩ := hS
  have I2 : Inv X pins σ H1 { s1 with heap := h2, toks := tk } := I1.kept fun b o e => hk b o (Heap.lt_size e) e
  have small : (met (fun i => xs.getD i Str.empty) xs.length).length ≤ xs.length := met_len _ _
  exact call_len_set g1 ex gd ft (by rw [hn]; omega) ⟨.int (once xs).length, H1, I2.tok _, ⟨_, by rw [hn]; rfl⟩, q1⟩
end Wr

set_option Elab.async false
set_option linter.all false
set_option maxRecDepth 100000
set_option maxHeartbeats 3200000
namespace Wr
open PySem PySem.Spec PyProof.Rows L2
/-! ### for i, x in enumerate(t), t a tuple (or a list) -/
abbrev tIter (t : Addr) : Obj := { cls := .type "tuple_iterator", data := .fields #[.ref t, .int 0 0] }
abbrev enumO (it : Addr) : Obj := { cls := .type "enumerate", data := .fields #[.none, .bool false, .ref it, rawInt 0, .none, .none] }
theorem enum_newT (t : Addr) (its : Array Value) (n : Nat) (dc : Option Addr) (sl : Array (Option Value)) :
    Meets (Builtin.«enumerate.__new__» ⟨[.type "enumerate", .ref t], []⟩) (fun _ R s => s.heap.get? t = some { cls := .type "tuple", dict := dc, data := .seq its n, slots := sl } ∧
      R (.ok (.ret (.ref (s.heap.push (tIter t)).objs.size))) { s with heap := (s.heap.push (tIter t)).push (enumO s.heap.objs.size) }) :=
  .of_wp fun pr w A R s h => by
    obtain ⟨hp, gn, dr, tk, os⟩ := s
    obtain ⟨ht, hR⟩ := h
    have q1 := sub_enumerate
    have isT : Heap.IsTuple (Shared.heap ⟨hp, gn, dr, tk, os⟩) t its := ⟨_, ht, rfl, n, rfl⟩
    wp_walk using AutoSeq1.wpAny_loadPart' ht
    refine wpAny_stack_any fun st => wpAny_pure ?_
    split
    · rename_i c _ _ _ _ _
      cases (c == Value.type "enumerate") <;> (wp_walk using AutoSeq1.wpAny_loadPart' ht, wpAny_pyIter_tuple isT; exact ⟨_, rfl, hR⟩)
    · wp_walk using AutoSeq1.wpAny_loadPart' ht, wpAny_pyIter_tuple isT
      exact ⟨_, rfl, hR⟩
section
variable {pr : Program} {w : World} {A : Around} {E : Value → Shared → Prop} {s : Shared}
theorem enum_callT {t : Addr} {its : Array Value} {Q : Value → Shared → Prop} (ht : s.heap.IsTuple t its)
    (h : ∀ h2, IsEnum h2 (s.heap.objs.size + 1) s.heap.objs.size 0 .none → h2.IsTupleIter s.heap.objs.size t 0 → (∀ b o, s.heap.get? b = some o → h2.get? b = some o) → Q (.ref (s.heap.objs.size + 1)) { s with heap := h2 }) :
    wpAny (model pr w) A (call (.type "enumerate") [.ref t]) Q E s := by
  obtain ⟨⟨c, dc, dt, sl⟩, ho, hc, n, hd⟩ := ht
  obtain rfl : c = .type "tuple" := hc
  obtain rfl : dt = .seq its n := hd
  refine callType_new F.called_enumerate (by decide) (F.typeCall_enumerate_1 _) (F.newCall_enumerate_1 _) (fun ob => F.args_object_init_2 ob _) F.entry_enumerate_new (enum_newT t its n dc sl) ⟨ho, ?_⟩
  have sz1 : (s.heap.push (tIter t)).objs.size = s.heap.objs.size + 1 := Heap.size_push ..
  show _ ∧ _
  rw [sz1]
  have he : IsEnum ((s.heap.push (tIter t)).push (enumO s.heap.objs.size)) (s.heap.objs.size + 1) s.heap.objs.size 0 .none := by
    have q := Heap.get?_push_size (s.heap.push (tIter t)) (o := enumO s.heap.objs.size) rfl
    rw [sz1] at q
    exact q
  exact ⟨⟨_, he, rfl⟩, h _ he ⟨_, Heap.get?_push_of_some _ (Heap.get?_push_size _ rfl), rfl, rfl⟩ fun b o x => Heap.get?_push_of_some _ (Heap.get?_push_of_some _ x)⟩
end
def IteT (K : PySem.W.Frag) (a : Addr) : It :=
  ⟨fun i H => ∃ (xs : List V) (x : V), SqT K H a xs ∧ xs[i]? = some x, fun i H v H' => ∃ T x, v = .ref T ∧ H T = none ∧ H' = upd H T (.tup [.int (i : Nat), x]) ∧ ∀ xs, SqT K H a xs → xs[i]? = some x, fun i H => ∃ xs : List V, SqT K H a xs ∧ xs.length = i⟩
theorem walk_enumT {K : PySem.W.Frag} {a : Addr} {xs : List V} : Walk (IteT K a) xs.length (fun H => SqT K H a xs) (YPair (fun i => some (.int (i : Nat))) (fun i => xs[i]?)) := by
  refine ⟨fun i _ hi q => ⟨xs, xs[i], q, by simp [hi]⟩, fun _ q => ⟨xs, q, rfl⟩, fun i H v H' _ q y => ?_⟩
  obtain ⟨T, x, h1, h2, h3, h4⟩ := y
  exact ⟨T, .int (i : Nat), x, h1, h2, h3, rfl, h4 xs q⟩
theorem turn_enumT {P : Program} {w : World} {K : PySem.W.Frag} {elts : List Expr} {kk : Nat} {tpos : Pos} (a e it : Addr) (hn : e ≠ it) (ha : a ≠ e) (hb : a ≠ it) :
    Turn P w K (.Tuple elts kk tpos) (IteT K a) [e, it] e (fun i h => (∃ old, IsEnum h e it ((i : Nat) : Int) old) ∧ h.IsTupleIter it a i) where
  mem := by simp
  obj := fun i h st b hb => by
    obtain ⟨⟨old, he⟩, o, ho, hc, hd⟩ := st
    rcases List.mem_cons.mp hb with z | z
    · rw [z]
      exact ⟨_, he, fun v q => nomatch q⟩
    · rw [List.mem_singleton.mp z]
      exact ⟨o, ho, fun v q => by rw [hd] at q; cases q⟩
  keep := fun i h h' st k => let ⟨⟨old, he⟩, hi⟩ := st; ⟨⟨old, k e (by simp) _ he⟩, hi.at fun o q => k it (by simp) o q⟩
  item := by
    intro X hP hw hK hc i pins s σ H E I hf st hg
    subst hP hw hK
    obtain ⟨⟨old, he⟩, hit⟩ := st
    obtain ⟨xs, x, hq, hx⟩ := hg
    obtain ⟨its, rv, p, _⟩ := I.tuple hq
    obtain ⟨u, hu, ru⟩ := rv.get hx
    have e1 : e < s.heap.objs.size := Heap.lt_size he
    have e2 : it < s.heap.objs.size := by obtain ⟨_, q, _⟩ := hit; exact Heap.lt_size q
    have isT : s.heap.IsTuple a its.toArray := p
    have hilt : i < its.toArray.size := by
      have := (List.getElem?_eq_some_iff.mp hu).1
      simpa using this
    refine wpAny_pyNext_enum_itemD (Draws.tuple (A := X.A.in1) (by simpa using I.ok.hd hc) it a hb its.toArray) he ⟨hit, isT⟩ hilt hn (by simp [hn, Ne.symm ha]) fun x2 h1 tk hx2 ho st1 hT hsz hk => ?_
    have eu : x2 = u := by
      have hx2' : its[i]? = some x2 := by simpa using hx2
      rw [hu] at hx2'
      exact (Option.some.inj hx2').symm
    subst eu
    refine ⟨_, rfl, wpAny_letOwnedTupleGo_enum (s := { s with heap := h1, toks := tk + 1 }) ho fun h2 he2 sb => ?_⟩
    have hT2 : h2.get? s.heap.objs.size = some { cls := .type "tuple", data := .seq #[.int i tk, x2] } := (sb.2 _ (Nat.ne_of_gt e1)).trans hT
    have new : ObjOk X.prog X.w (upd H s.heap.objs.size (.tup [.int (i : Nat), x])) h2 s.heap.objs.size (.tup [.int (i : Nat), x]) :=
      ⟨(by decide : 2 ≤ sizeLine), [.int i tk, x2], .cons ⟨_, rfl⟩ (.cons ru .nil), ⟨_, hT2, rfl, _, rfl⟩⟩
    have I1 : Inv X pins σ (upd H s.heap.objs.size (.tup [.int (i : Nat), x])) { s with heap := h2, toks := tk + 1 } := by
      refine I.turnedNew (ch := [e, it]) (fun b ob nb q => ?_) hf (Nat.le_refl _) new
      have n1 : b ≠ e := fun z => nb (by simp [z])
      have n2 : b ≠ it := fun z => nb (by simp [z])
      exact (sb.2 b n1).trans (hk b ob n1 n2 q)
    refine ⟨.ref s.heap.objs.size, _, I1, rfl, ⟨_, x, rfl, I.hok.fresh (Nat.le_refl _), rfl, fun ys hy => by rw [I.tuple_inj hy hq]; exact hx⟩, ⟨⟨x2, ?_⟩, st1.1.at fun o q => (sb.2 it (Ne.symm hn)).trans q⟩, fun b hb => ?_⟩
    · rw [show ((i + 1 : Nat) : Int) = (i : Int) + 1 by omega]
      exact he2
    · have lb : b < s.heap.objs.size := by
        rcases List.mem_cons.mp hb with z | z
        · rw [z]; exact e1
        · rw [List.mem_singleton.mp z]; exact e2
      rw [upd_ne (Nat.ne_of_lt lb)]
      exact (hf b hb).1
  done := by
    intro X hP hw hK hc i pins s σ H E I hf st hg
    subst hP hw hK
    obtain ⟨⟨old, he⟩, hit⟩ := st
    obtain ⟨xs, hq, hx⟩ := hg
    obtain ⟨its, rv, p, _⟩ := I.tuple hq
    have isT : s.heap.IsTuple a its.toArray := p
    have en : its.toArray.size = i := by rw [List.size_toArray, ← rv.length]; exact hx
    obtain ⟨f0, f1, f2, f3, f4, f5⟩ := hf it (by simp)
    refine wpAny_pyNext_enum_endD (Draws.tuple (A := X.A.in1) (by simpa using I.ok.hd hc) it a hb its.toArray) he ⟨by rw [en]; exact hit, isT⟩ fun h1 eb => ⟨rfl, ?_⟩
    exact I.turned (t' := s.toks) (fun b o hb q => eb b o hb q) f0 f1 f3 f4 f5
  self := fun A i s Q E st h => let ⟨⟨_, he⟩, _⟩ := st; wpAny_pyIter_enum he h
def iEnumS (K : PySem.W.Frag) (ta : TA) : TI := fun σ H R => ta σ H fun vs H1 => ∃ a xs, vs = [.ref a] ∧ (SqL K H1 a xs ∨ SqT K H1 a xs) ∧
  ∀ (J : It) (Gd : Hp → Prop), Walk J xs.length Gd (YPair (fun i => some (.int (i : Nat))) (fun i => xs[i]?)) → (∀ H2, (SqL K H1 a xs → SqL K H2 a xs) → (SqT K H1 a xs → SqT K H2 a xs) → Gd H2) → R J H1
theorem pi_enumS {X : Cx} {e : Expr} {ta : TA} {p1 p2 p3 : Pos} {elts : List Expr} {kk : Nat} (hg : Gl X "enumerate") (hm : X.mg "enumerate" = none) (ha : PA X [e] ta) (hs : starEach [e] X.env = [(false, eval e X.env)] := by rfl) :
    PI X (.Tuple elts kk p3) (.Call (.Name "enumerate" p1) [e] [] p2) (iEnumS X.K ta) := by
  refine ⟨fun pins s σ H R I h => ?_⟩
  refine Call_ (ld_blt I hg hm boot_enumerate (PyProof.Rows.callWith_type1 (thn (ha.run p2 pins s σ H _ I h) fun us s1 ⟨vs, H1, I1, r1, q1⟩ => ?_) hs rfl))
  obtain ⟨a, xs, rfl, hq, q⟩ := q1
  obtain ⟨u, rfl, r⟩ := vals1 r1
  cases r
  have fr : ∀ b ∈ [s1.heap.objs.size + 1, s1.heap.objs.size], FpOk X pins H1 b := fun b hb => by
    have hle : s1.heap.objs.size ≤ b := by
      rcases List.mem_cons.mp hb with z | z
      · rw [z]; exact Nat.le_succ _
      · rw [List.mem_singleton.mp z]; exact Nat.le_refl _
    exact I1.fpOk hle (I1.hok.fresh hle)
  rcases hq with hq | hq
  · obtain ⟨its, rv, p, _⟩ := I1.list hq
    refine call_enumerate_list p.isList fun h2 he hit _ hk => wpAny_pyIter_enum he ?_
    exact ⟨s1.heap.objs.size + 1, _, _, _, H1, rfl, I1.kept (t' := s1.toks) hk, turn_enum a (s1.heap.objs.size + 1) s1.heap.objs.size, ⟨⟨.none, he⟩, hit, Nat.succ_ne_self _⟩, fr, q _ _ walk_enum fun H2 f _ => f hq⟩
  · obtain ⟨its, rv, p, _⟩ := I1.tuple hq
    have la : a < s1.heap.objs.size := p.lt
    refine enum_callT (show s1.heap.IsTuple a its.toArray from p) fun h2 he hit hk => wpAny_pyIter_enum he ?_
    exact ⟨s1.heap.objs.size + 1, _, _, _, H1, rfl, I1.kept (t' := s1.toks) hk, turn_enumT a (s1.heap.objs.size + 1) s1.heap.objs.size (Nat.succ_ne_self _) (Nat.ne_of_lt (Nat.lt_succ_of_lt la)) (Nat.ne_of_lt la), ⟨⟨.none, he⟩, hit⟩, fr, q _ _ walk_enumT fun H2 _ f => f hq⟩
end Wr

set_option Elab.async false
set_option linter.all false
set_option maxRecDepth 100000
set_option maxHeartbeats 3200000
namespace Wr
open PySem PySem.Spec PyProof.Rows L2
/-! ### xs[::-1], xs a list or a tuple -/
section
variable {pr : Program} {w : World} {A : Around} {E : Value → Shared → Prop} {s : Shared}
theorem adjust_back (n : Nat) : Builtin.Slice.sliceAdjust none none (-1) (n : Int) = ((n : Int) - 1, -1) := by
  unfold Builtin.Slice.sliceAdjust
  simp
theorem places_back (n : Nat) : Builtin.Slice.slicePlaces ((n : Int) - 1) (-1) (-1) = n := by
  unfold Builtin.Slice.slicePlaces
  simp
  try omega
theorem fm_congr {α β : Type} {f g : α → Option β} : ∀ {l : List α}, (∀ k ∈ l, f k = g k) → l.filterMap f = l.filterMap g
  | [], _ => rfl
  | a :: r, h => by
    rw [List.filterMap_cons, List.filterMap_cons, h a (List.mem_cons_self ..), fm_congr fun k hk => h k (List.mem_cons_of_mem _ hk)]
theorem pick_back (xs : List Value) : (List.range xs.length).filterMap (fun (k : Nat) => xs[((xs.length : Int) - 1 + (k : Int) * (-1)).toNat]?) = xs.reverse := by
  have e : ∀ k ∈ List.range xs.length, xs[((xs.length : Int) - 1 + (k : Int) * (-1)).toNat]? = xs.reverse[k]? := by
    intro k hk
    have hk' := List.mem_range.mp hk
    rw [List.getElem?_reverse hk']
    congr 1
    omega
  rw [fm_congr e]
  have q : ∀ ys : List Value, (List.range ys.length).filterMap (fun k => ys[k]?) = ys := by
    intro ys
    induction ys with
    | nil => rfl
    | cons y r ih =>
      rw [List.length_cons, List.range_succ_eq_map, List.filterMap_cons, List.filterMap_map]
      simp only [List.getElem?_cons_zero]
      congr 1
  have z := q xs.reverse
  rw [List.length_reverse] at z
  exact z
theorem rev_tup {t sl : Addr} {its : List Value} {vs : Value} {Q : Value → Shared → Prop} (ht : IsTup s.heap t its.toArray) (hs : s.heap.IsSliceOf sl .none .none vs) (ps : IsPart vs (some (-1))) (hz : its.length ≤ sizeLine)
    (h : Q (.ref s.heap.objs.size) { s with heap := s.heap.push { cls := .type "tuple", data := .seq its.reverse.toArray } }) : wpAny (model pr w) A (getItem (.ref t) (.ref sl)) Q E s := by
  obtain ⟨os, g1, g2, g3⟩ := id hs
  have ty : s.TypeIs (.ref sl) "slice" := ⟨os, g1, g2⟩
  have fit : sizeOk (.seq its.reverse.toArray) := by
    show its.reverse.toArray.size ≤ sizeLine
    rw [List.size_toArray, List.length_reverse]
    exact hz
  unfold getItem
  try with_reducible refine wpAny_holding ?_
  first | refine wpAny_bind (wpAny_pure ?_) | skip
  refine wpAny_bind (wpAny_sequenceKey ht.typeIs (by decide) (wpAny_bind (wpAny_callSpecial?_slot (name := Str.ofString "__getitem__") ht.typeIs PyProof.Rows.slot_tuple_getitem (wpAny_call_entry PyProof.Rows.slot_tuple_getitem ht.typeIs entry_tuple_getitem ?_ (args_tuple_getitem _ _)))))
  show wpAny _ _ (Builtin.Tuple.tupleItemsOf (.ref t) >>= _) _ _ s
  refine wpAny_bind (tupleItemsOf_ ht (wpAny_bind (wpAny_typeOf ty ?_)))
  rw [if_pos (by decide)]
  refine wpAny_bind ?_
  · unfold Builtin.Slice.sliceApplied Builtin.Slice.sliceFields
    refine wpAny_bind (wpAny_bind (wpAny_field g1 g3 (x := .none) rfl (wpAny_bind (wpAny_field g1 g3 (x := .none) rfl (wpAny_bind (wpAny_field g1 g3 (x := vs) rfl (wpAny_pure ?_)))))))
    refine wpAny_bind (HT.slicePart_ ps ?_)
    show wpAny _ _ (if ((-1 : Int) == 0) = true then _ else _) _ _ s
    rw [if_neg (by decide)]
    refine wpAny_bind (HT.slicePart_ .none (wpAny_bind (HT.slicePart_ .none (wpAny_bind (wpAny_pure ?_)))))
    show wpAny _ _ (match Builtin.Slice.sliceAdjust none none (-1) ((its.toArray.size : Nat) : Int) with | (lo, hi) => pure (lo, (-1 : Int), Builtin.Slice.slicePlaces lo hi (-1))) _ _ s
    rw [adjust_back]
    show wpAny _ _ (pure (((its.toArray.size : Nat) : Int) - 1, (-1 : Int), Builtin.Slice.slicePlaces (((its.toArray.size : Nat) : Int) - 1) (-1) (-1))) _ _ s
    rw [places_back]
    refine wpAny_pure ?_
    have no : ¬ ((((its.toArray.size : Nat) : Int) - 1 == 0 && (-1 : Int) == 1 && its.toArray.size == its.toArray.size) = true) := by
      intro q
      rw [Bool.and_eq_true, Bool.and_eq_true] at q
      exact absurd (eq_of_beq q.1.2) (by decide)
    show wpAny _ _ (if ((((its.toArray.size : Nat) : Int) - 1 == 0 && (-1 : Int) == 1 && its.toArray.size == its.toArray.size) = true) then _ else _) _ _ s
    rw [if_neg no]
    have ep : ((List.range its.toArray.size).filterMap fun (k : Nat) => its.toArray[(((its.toArray.size : Nat) : Int) - 1 + (k : Int) * (-1)).toNat]?).toArray = its.reverse.toArray := by
      congr 1
      rw [List.size_toArray, ← pick_back its]
      simp
    rw [ep]
    first
      | exact wpAny_bind (m := Builtin.Tuple.tupleExact _) (wpAny_newObj_type (wpAny_pure ⟨_, rfl, wpAny_pure h⟩) fit)
      | exact wpAny_bind (m := Builtin.Tuple.tupleExact _) (wpAny_newObj_type (wpAny_bind (wpAny_pure (wpAny_pure ⟨_, rfl, wpAny_pure h⟩))) fit)
      | exact wpAny_bind (wpAny_bind (m := Builtin.Tuple.tupleExact _) (wpAny_newObj_type (wpAny_pure (wpAny_pure ⟨_, rfl, wpAny_pure h⟩)) fit))
      | exact wpAny_bind (wpAny_bind (m := Builtin.Tuple.tupleExact _) (wpAny_newObj_type (wpAny_pure ⟨_, rfl, wpAny_pure h⟩) fit))
end
/-- no object is a list and a tuple -/
theorem lt_not {X : Cx} {pins : List (Addr × Obj)} {σ : L2.St} {H : Hp} {s : Shared} {a : Addr} {xs ys : List V} (h1 : SqL X.K H a xs) (h2 : SqT X.K H a ys) (I : Inv X pins σ H s) : False := by
  obtain ⟨_, _, ⟨o, n, e, c, _⟩, _⟩ := I.list h1
  obtain ⟨_, _, ⟨o2, e2, c2, _⟩, _⟩ := I.tuple h2
  rw [e] at e2
  cases e2
  rw [c] at c2
  exact absurd c2 (by decide)
/-- tuple(xs), xs a list or a tuple -/
theorem call_tupA {X : Cx} : CallR X (.type "tuple") (fun vs H Q => ∃ a us, vs = [.ref a] ∧ (SqL X.K H a us ∨ SqT X.K H a us) ∧ ∀ p H2, Le H H2 → SqT X.K H2 p us → Q (.ref p) H2) := by
  intro pins s σ H vs us Q I r h
  obtain ⟨a, xs, rfl, hq, q⟩ := h
  rcases hq with hq | hq
  · exact call_tuple_of pins s σ H _ us Q I r ⟨a, xs, rfl, .inl ⟨hq, fun l hl => q l _ (Le.new hl) (sqt upd_same)⟩⟩
  · exact call_tuple_of pins s σ H _ us Q I r ⟨a, xs, rfl, .inr ⟨hq, q a H (Le.refl H) hq⟩⟩
def tRevS (K : PySem.W.Frag) (te : TE) : TE := fun σ H Q => te σ H fun x H1 => ∃ a xs, x = .ref a ∧ (SqL K H1 a xs ∨ SqT K H1 a xs) ∧
  ∀ p H2, Le H1 H2 → H1 p = none → (SqL K H1 a xs → H2 p = some (.lst xs.reverse)) → (SqT K H1 a xs → H2 p = some (.tup xs.reverse)) → (SqL K H2 p xs.reverse ∨ SqT K H2 p xs.reverse) → Q (.ref p) H2
theorem pe_revS {X : Cx} {e : Expr} {te : TE} {k : Nat} {p1 p2 p3 p4 : Pos} (he : PE X e te) : PE X (.Subscript e (.Slice none none (some (.UnaryOp .USub (.Constant (.int 1) k p1) p2)) p3) p4) (tRevS X.K te) := by
  refine ⟨fun pins s σ H Q I h => Subscript_ (thn (he.run pins s σ H _ I h) fun v s1 ⟨x, H1, I1, r1, q1⟩ => ?_)⟩
  obtain ⟨a, xs, rfl, hq, q⟩ := q1
  cases r1
  have back : PO X (some (.UnaryOp .USub (.Constant (.int 1) k p1) p2)) (tPart (tUn (rU fun i => .int (-i)) (tC (.int 1)))) := po_some (pe_un un_neg pe_int)
  refine wpAny_Slice (thn (po_none.run pins s1 σ H1 (fun o H2 => o = none ∧ H2 = H1) I1 ⟨rfl, rfl⟩) fun vl s2 ⟨l, H2, I2, pl, el, e2⟩ => ?_)
  subst el e2
  refine thn (po_none.run pins s2 σ H2 (fun o H3 => o = none ∧ H3 = H2) I2 ⟨rfl, rfl⟩) fun vu s3 ⟨u, H3, I3, pu, eu, e3⟩ => ?_
  subst eu e3
  refine thn (back.run pins s3 σ H3 (fun o H4 => o = some (-1) ∧ H4 = H3) I3 ⟨1, rfl, -1, rfl, rfl, rfl⟩) fun vs s4 ⟨o, H4, I4, ps, eo, e4⟩ => ?_
  subst eo e4
  have I5 : Inv X pins σ H4 { s4 with heap := s4.heap.push { cls := .type "slice", data := .fields #[vl, vu, vs] } } := I4.kept (t' := s4.toks) fun b ob z => Heap.get?_push_of_some _ z
  rcases hq with hq | hq
  · obtain ⟨its, r, ht, hz⟩ := I5.list hq
    have hl := r.length
    refine tail_any (ops := [.ref a, .ref s4.heap.objs.size]) ht.isList.typeIs (PySem.slot_list_getitem.lookup) ?_ (by with_unfolding_all rfl)
    refine wpAny_getItem_list_slice ht.isList (Heap.IsSliceOf.new _ vl vu vs) pl pu ps (by decide) ?_ (by rw [List.size_toArray]; omega)
    rw [PySem.W.krv_pick]
    refine ⟨.ref _, _, I5.laid (t' := s4.toks) (o := .lst xs.reverse) (fun b ob z => Heap.get?_push_of_some _ z) (Nat.le_refl _) ?_, rfl, q _ _ (Le.new (I5.hok.fresh (Nat.le_refl _))) (I5.hok.fresh (Nat.le_refl _)) (fun _ => upd_same) (fun z => (lt_not hq z I5).elim) (.inl (sql upd_same))⟩
    exact ⟨by rw [List.length_reverse]; exact hz, _, 0, r.reverse, Heap.get?_push_size _ rfl⟩
  · obtain ⟨its, r, ht, hz⟩ := I5.tuple hq
    have hl := r.length
    cases pl
    cases pu
    refine tail_any (ops := [.ref a, .ref s4.heap.objs.size]) ht.typeIs (PyProof.Rows.slot_tuple_getitem.lookup) ?_ (by with_unfolding_all rfl)
    refine rev_tup ht (Heap.IsSliceOf.new _ _ _ vs) ps (by omega) ?_
    refine ⟨.ref _, _, I5.laid (t' := s4.toks) (o := .tup xs.reverse) (fun b ob z => Heap.get?_push_of_some _ z) (Nat.le_refl _) ?_, rfl, q _ _ (Le.new (I5.hok.fresh (Nat.le_refl _))) (I5.hok.fresh (Nat.le_refl _)) (fun z => (lt_not z hq I5).elim) (fun _ => upd_same) (.inr (sqt upd_same))⟩
    exact ⟨by rw [List.length_reverse]; exact hz, _, r.reverse, ⟨_, Heap.get?_push_size _ rfl, rfl, _, rfl⟩⟩
end Wr

set_option Elab.async false
set_option linter.all false
set_option maxRecDepth 100000
set_option maxHeartbeats 2000000
namespace Wr
open PySem PySem.Spec PyProof.Rows L2
/-! ### a call while one list is set aside: the callee can't reach it -/
def aside (it : Addr) (H : Hp) : Hp := fun b => if b = it then none else H b
theorem aside_at {it : Addr} {H : Hp} : aside it H it = none := if_pos rfl
theorem aside_ne {it b : Addr} {H : Hp} (h : b ≠ it) : aside it H b = H b := if_neg h
def framed (sp : Sp) : Sp := fun vs H Q E => ∃ it us, H it = some (.lst us) ∧ sp vs (aside it H) (fun v H2 => H2 it = none → Q v (upd H2 it (.lst us))) E
theorem FnOk.frame {P : Program} {w : World} {K : PySem.W.Frag} {mg : Str → Option Value} {base : Heap} {k : Nat} {f : Addr} {fd : FuncData} {ps : List Str} {sp : Sp} (F : FnOk P w K mg base CX0 k f fd ps sp) : FnOk P w K mg base CX0 k f fd ps (framed sp) := by
  refine ⟨fun vs H Q E ⟨it, us, _, h⟩ => F.len _ _ _ _ h, fun A outer s H args us vs Q E hr e0 hb hv h => ?_⟩
  obtain ⟨it, xs, hit, h⟩ := h
  have nt : ∀ b o, H b = some o → o ≠ .lst xs → b ≠ it := fun b o e n z => by
    rw [z, hit] at e
    exact n (Option.some.inj e).symm
  have hok2 : HOk P w (aside it H) s.heap := fun b o e => by
    have nb : b ≠ it := fun z => by rw [z, aside_at] at e; cases e
    rw [aside_ne nb] at e
    refine (e0.hok b o e).stay (fun _ _ _ q => q) (fun c q => ?_) fun c ys q => ?_
    · rw [aside_ne (nt c _ q (by intro z; cases z))]
      exact q
    · rw [aside_ne (nt c _ q (by intro z; cases z))]
      exact q
  have e2 : Env0 P w K mg base A outer s (aside it H) := by
    refine ⟨e0.frames, e0.mod, fun b o e => ⟨(e0.bs b o e).1, ?_⟩, e0.bsz, e0.funs, fun b hb => ?_, hok2, e0.bare⟩
    · by_cases z : b = it
      · rw [z]; exact aside_at
      · rw [aside_ne z]; exact (e0.bs b o e).2
    · by_cases z : b = it
      · rw [z]; exact aside_at
      · rw [aside_ne z]; exact e0.frf b hb
  have itf : it ∉ frs outer := fun z => by
    have := e0.frf it z
    rw [hit] at this
    cases this
  refine codeAny_mono (F.run A outer s (aside it H) args us vs _ E hr e2 hb hv h) fun r s1 hr1 => ?_
  match r, hr1 with
  | .ok (.ret u), hr1 =>
    obtain ⟨v, H2, os, bare, un, hok', rv, q⟩ := hr1
    obtain ⟨zl, its, n, rl, gi⟩ := e0.hok it _ hit
    have free : H2 it = none := un.free it _ gi aside_at (by simp)
    have stays : s1.heap.get? it = _ := un.keep it _ gi aside_at itf (by simp)
    have back : ∀ b, H b = none → aside it H b = none := fun b e => by
      by_cases z : b = it
      · rw [z]; exact aside_at
      · rw [aside_ne z]; exact e
    have nit : ∀ b, H b = none → b ≠ it := fun b e z => by rw [z, hit] at e; cases e
    refine ⟨v, upd H2 it (.lst xs), os, bare, ⟨fun b o g e => un.keep b o g (back b e), fun b o g e => un.slot b o g (back b e), fun b o g e x => ?_, un.there, fun b ys e => ?_, fun b o u e => ?_, fun b qs e => ?_⟩, fun b o e => ?_, rv, q free⟩
    · rw [upd_ne (nit b e)]
      exact un.free b o g (back b e) x
    · have nb := nt b _ e (by intro z; cases z)
      rw [upd_ne nb]
      exact un.tups b ys (by rw [aside_ne nb]; exact e)
    · have nb := nt b _ e (by intro z; cases z)
      rw [upd_ne nb]
      exact un.frzs b o u (by rw [aside_ne nb]; exact e)
    · have nb := nt b _ e (by intro z; cases z)
      rw [upd_ne nb]
      exact un.tbls b qs (by rw [aside_ne nb]; exact e)
    · by_cases z : b = it
      · rw [z, upd_same] at e
        cases e
        rw [z]
        exact ⟨zl, its, n, rl, stays⟩
      · rw [upd_ne z] at e
        refine (hok' b o e).stay (fun _ _ _ g => g) (fun c g => ?_) fun c ys g => ?_
        · rw [upd_ne (ne_of_none g free)]
          exact g
        · rw [upd_ne (ne_of_none g free)]
          exact g
theorem Le.asideR {H H1 : Hp} {it : Addr} (l : Le H H1) (h : H it = none) : Le H (aside it H1) := by
  refine ⟨fun b o e n => ?_, fun P ⟨ps, e, t⟩ => ?_, fun b e => ?_⟩
  · rw [aside_ne (ne_of_none e h)]
    exact l.keep b o e n
  · obtain ⟨ps2, e2, t2⟩ := l.tab P ⟨ps, e, t⟩
    exact ⟨ps2, by rw [aside_ne (ne_of_none e h)]; exact e2, t2⟩
  · by_cases z : b = it
    · rw [z]; exact h
    · rw [aside_ne z] at e
      exact l.dom b e
end Wr

set_option Elab.async false
set_option linter.all false
set_option maxRecDepth 100000
set_option maxHeartbeats 2000000
namespace Wr
open PySem PySem.Spec PyProof.Rows L2
/-! ### the end, where some defs hold generator expressions -/
/-- what is asked of a code object's fields; P its table -/
def CodeVs (vs : Array Value) (P : Addr) : Prop := vs[11]? = some (.ref P) ∧ vs.getD 11 .none = .ref P ∧ (∃ z t, vs.getD 18 .none = .str z t) ∧ (∃ i t, vs.getD 7 .none = .int i t) ∧ (∃ b, vs.getD 9 .none = .bool b) ∧ ∃ i t, vs.getD 10 .none = .int i t
theorem code_hd {K : PySem.W.Frag} {h : Heap} {c P : Addr} {dd : Option Addr} {vs : Array Value} {sl : Array (Option Value)} (X : K.In h) (lc : K.lookup c = some ⟨.type "code", dd, .fields vs, sl⟩) (lv : CodeVs vs P) (lp : K.lookup P = none) : PySem.W.CodeHd h c P := by
  obtain ⟨v1, v2, ⟨z, t, v3⟩, ⟨i, t2, v4⟩, ⟨b, v5⟩, j, t3, v6⟩ := lv
  refine ⟨_, vs, z, t, i, t2, b, j, t3, X _ _ lc, rfl, rfl, v1, v2, v3, v4, v5, v6, fun e => ?_⟩
  rw [e, lp] at lc
  cases lc
theorem walk_gens {l : PySem.W.OpenLaw} {n k : Nat} {q : Program} {loose : List Str} {XP : (Str → Option Value) → Heap → Prop} {YP : World → Heap → Prop} {d : DefRec} {K : Params → PySem.W.Frag} {CX : World → CXT} {x : Str} (nms : List Str)
    (hn : l.most = some n) (hn2 : n ≤ sizeLine) (hdf : d.params.defaults = []) (hr : Room k callerA) (hrec : ∀ nm ∈ nms, ((recsOf q).any fun e => e.name == nm) = true) (hY : ∀ (w : World) (h : Heap), YP w h → (K w.params).In h)
    (F : ∀ (w : World) (mg : Str → Option Value) (fa : Addr) (h : Heap), (K w.params).In h → h.Ns mainGlobals mg → mg d.name = some (.ref fa) → (∀ nm ∈ nms, ∀ fb, mg nm = some (.ref fb) → LamX.OwnTab (K w.params) fb h) → LamX.LawAtS l w (K w.params) (CX w) k n x mg fa h)
    (hCX : ∀ (w : World) (H : Hp) (s : Shared) (e : Value) (s' : Shared), CX w [] H s (fun _ _ _ => False) e s' → False) : PySem.W.WalkO q loose XP YP l.row.toRowW d [] (fun f vs => PySem.call f vs) := by
  refine Att.attach_callB hn hdf fun w s0 s1 mg mb fa o pm cd doc a vs ns G Y ho hd hcd hmg hobj hints hlen hbits hg => ?_
  have KX := hY w _ Y
  have own : ∀ nm ∈ nms, ∀ fb, mg nm = some (.ref fb) → LamX.OwnTab (K w.params) fb s1.heap := by
    intro nm hm fb hfb c P o1 fd1 e dd vs1 sl k1 k2 k3 k4 k5
    obtain ⟨dL, hdm, hdn⟩ := List.any_eq_true.mp (hrec nm hm)
    have en : dL.name = nm := beq_iff_eq.mp hdn
    obtain ⟨a', o', fd', c', P', g1, g2, g3, g4, g5, g6⟩ := G.T.tab dL hdm
    rw [en, hfb] at g1
    cases g1
    rw [KX _ _ k1] at g2
    cases g2
    rw [k2] at g3
    cases g3
    rw [k3] at g4
    cases g4
    obtain ⟨⟨oc, vc, u1, _, u3, u4⟩, hP⟩ := g6
    rw [KX _ _ k4] at u1
    cases u1
    cases u3
    rw [k5] at u4
    cases u4
    exact hP
  obtain ⟨fd, cs, sp, hT, nT, C, hb, hsp, hF⟩ := F w mg fa _ KX G.T.g hmg own
  exact LamX.law_callTs KX G.T.g G.T.b G.T.builtins G.T.nolimit hg hT nT C G.T.bmain hobj hints (Nat.le_trans hlen hn2) hr hF hb (fun H hH hS => hsp H a ns hlen hbits hH hS) fun H e s' => hCX w H s1 e s'
end Wr

set_option Elab.async false
set_option linter.all false
set_option maxRecDepth 100000
set_option maxHeartbeats 2000000
/-! A generator expression whose parts are read by the layer's own rules: target, tests and element run in a context of their own. -/
namespace GZ
open PySem PySem.Spec PyProof.Rows L2
/-- the context of the generator's turns; A: where they stand -/
def gcx (X : Cx) (A : Around) (s : Shared) (H : Hp) (ce : Env) (fp : List Addr) (pn : List (Addr × Obj)) : Cx :=
  { X with A := A, s_0 := s, H_0 := H, env := ce, outer := X.stack, stack := ce :: X.stack, ex := fp, fn := fun _ => false, calm := true, pn := pn, xe := fun _ _ => False }
/-- the generator's frame -/
abbrev gEnv (X : Cx) (sc : Scope) (C : Addr) (cd : Value) : Env := genEnv sc (cloFrom X.env.cells sc.names []) C cd builtinsNs X.env
section
variable {X : Cx} {pins : List (Addr × Obj)} {σ : L2.St} {H : Hp} {s t : Shared}
theorem gen_start {sc : Scope} {own : List (Str × Nat)} {fp : List Addr} {B : Around} {cd it : Value} {pn pl : List (Addr × Obj)} (I : Inv X pins σ H s) (ok : BlkOk X.N X.env.scope sc own) (hN : X.N.Nodup) (nc : ∀ y ∈ sc.names, y.2 ≠ .cell)
    (hfp : ∀ b ∈ fp, FpOk X pins H b ∧ b < s.heap.objs.size) (hh : B.handled = none) (hf : B.frames = some (gEnv X sc s.heap.objs.size cd :: X.stack)) (kp : ∀ b o, s.heap.get? b = some o → t.heap.get? b = some o) (os : t.os = s.os) (hb : AllBare t.gens)
    (ns : t.heap.Ns s.heap.objs.size (fun y => if y = ".0" then some it else none)) (hp : ∀ p ∈ pn ++ pl, t.heap.get? p.1 = some p.2 ∧ s.heap.objs.size < p.1 ∧ ∀ v, p.2.data ≠ .cell v) :
    Inv (gcx X B s H (gEnv X sc s.heap.objs.size cd) fp pn) pl (wipe σ (own.map (·.2))) H t := by
  have hfree : ∀ y ∈ sc.names, y.2 = .free → ∃ c, X.env.cells.lookup y.1 = some c := fun y hy e => (ok.free y hy e).elim (fun k => I.ok.has _ (.inl k)) fun k => I.ok.has _ (.inr k)
  have cm : ∀ {y c}, (gEnv X sc s.heap.objs.size cd).cells.lookup y = some c → X.env.cells.lookup y = some c := fun e => NdefX.clo_cm hfree e
  have fr : ∀ b ∈ fp, b ∉ frs X.stack := fun b hb z => by
    rcases List.mem_cons.mp (I.stkSub b z) with z | z
    · exact (hfp b hb).1.2.1 z
    · exact (hfp b hb).1.2.2.1 z
  have kof : ∀ y, sc.names.lookup y = some .cell ∨ sc.names.lookup y = some .free → sc.names.lookup y = some .free := fun y h => by
    rcases h with h | h
    · exact absurd rfl (nc _ (PySem.mem_of_lookup h))
    · exact h
  have lk : ∀ y, sc.names.lookup y = some .free → ∃ c, (gEnv X sc s.heap.objs.size cd).cells.lookup y = some c ∧ X.env.cells.lookup y = some c := fun y h => by
    obtain ⟨c, hc⟩ := hfree _ (PySem.mem_of_lookup h) rfl
    exact ⟨c, NdefX.clo_has hfree (PySem.mem_of_lookup h) hc, hc⟩
  have okY : (gcx X B s H (gEnv X sc s.heap.objs.size cd) fp pn).Ok := by
    refine ⟨I.ok.mod, ok.kind, I.ok.glob, rfl, Nat.le_refl _, fun x y c h1 h2 => I.ok.inj x y c (cm h1) (cm h2), fun y hy => ?_, fun y c h => absurd h Bool.false_ne_true, fun _ => hh, hf, .inr ⟨rfl, rfl⟩, fun b hb => ⟨Nat.ne_of_lt (hfp b hb).2, fun y c e => ?_⟩, I.bs,
      Nat.le_trans I.ok.bsz I.sz, fun b o e hb => ?_, fr, I.stack, I.stkFree⟩
    · obtain ⟨c, hc, _⟩ := lk y (kof y hy)
      exact ⟨c, hc⟩
    · exact (hfp b hb).1.2.2.2.2.1 y c (cm e)
    · rcases (hfp b hb).1.2.2.2.1 with z | z
      · exact I.ok.noex b o e z
      · exact absurd (Nat.lt_of_lt_of_le (Heap.lt_size e) (Nat.le_trans I.ok.bsz z)) (Nat.lt_irrefl _)
  refine ⟨okY, os, hb, Un.kept kp, ⟨_, ns, fun i y v e1 e2 e3 => ?_⟩, fun y c e => ?_, I.hok.fresh (Nat.le_refl _), fun y c e => I.freeC y c (cm e), fun p h => ?_, I.hok.kept kp, by rw [wipe_length]; exact I.len⟩
  · obtain ⟨e2, hne⟩ := wipe_some e2
    have hfr : sc.names.lookup y = some .free := by
      rcases e3 with e3 | e3 | e3
      · rcases ok.own _ (PySem.mem_of_lookup e3) (.inl rfl) with z | z
        · obtain ⟨p, hp, hpy⟩ := List.mem_map.mp z
          have e4 := ok.ix p hp
          rw [show p.1 = y from hpy] at e4
          exact absurd (List.mem_map.mpr ⟨p, hp, nodup_ix hN e4 e1⟩) hne
        · exact absurd (List.mem_of_getElem? e1) z
      · exact kof y (.inl e3)
      · exact e3
    obtain ⟨m, hn, hl⟩ := I.loc
    obtain ⟨u, r, q⟩ := hl i y v e1 e2 ((ok.free _ (PySem.mem_of_lookup hfr) rfl).elim (fun k => .inr (.inl k)) fun k => .inr (.inr k))
    obtain ⟨c, h1, h2⟩ := lk y hfr
    refine ⟨u, r, .inr ⟨.inr hfr, c, h1, ?_⟩⟩
    rcases q with ⟨k, _⟩ | ⟨_, c2, e5, z⟩
    · have k : X.env.scope.names.lookup y = some .local := k
      rcases ok.free _ (PySem.mem_of_lookup hfr) rfl with k2 | k2 <;> rw [show X.env.scope.names.lookup y = _ from k2] at k <;> cases k
    · rw [h2] at e5
      cases e5
      exact z.keeps kp
  · obtain ⟨v, z⟩ := I.cell y c (cm e)
    exact ⟨v, z.keeps kp⟩
  · obtain ⟨h1, h2, h3⟩ := hp p h
    refine ⟨h1, I.hok.fresh (Nat.le_of_lt h2), Nat.ne_of_gt h2, fun z => ?_, h3⟩
    rcases List.mem_cons.mp (I.stkSub _ z) with z | z
    · exact absurd I.lt (by rw [← z]; exact Nat.not_lt.mpr (Nat.le_of_lt h2))
    · exact I.nofs (Nat.le_of_lt h2) z
end

abbrev gexp (elt tg iter : Expr) (ifs : List Expr) (sc : Scope) (pos : Pos) : Expr := .GeneratorExp elt [⟨tg, iter, ifs, 0⟩] sc pos
/-- what a turn is to reach: W by the turn, a measure and what is out; Nx what one turn leaves -/
def Turns (J : It) (g : TG) (tt : TT) (te : TE) (vs : List Nat) (σ : L2.St) (cont : List V → Hp → Prop) (W : Nat → Nat → List V → Hp → Prop) : Prop := ∀ i m ys H, W i m ys H →
  (J.stop i H ∧ cont ys H) ∨ (J.go i H ∧ ∃ Nx : List V → Hp → Prop, (∀ ys' H', Nx ys' H' → ∃ m', m' < m ∧ W (i + 1) m' ys' H') ∧ ∀ x H', J.yld i H x H' → g x (wipe σ vs) H' fun σ2 H2 => wipe σ2 vs = wipe σ vs ∧ tt σ2 H2 fun b H3 =>
    if b = true then ys.length < sizeLine ∧ te σ2 H3 fun y H4 => Nx (ys ++ [y]) H4 else Nx ys H3)
section
variable {X : Cx} {σ : L2.St} {H1 : Hp} {sc0 : Shared}
theorem gx_loop {A : Around} {elt tg iter : Expr} {ifs : List Expr} {sc : Scope} {pos : Pos} {it a S : Addr} {gn : Nat} {fp : List Addr} {ce : Env} {go : Obj} {J : It} {tn : Nat → Heap → Prop} {g : TG} {tt : TT} {te : TE} {vs : List Nat} {cont : List V → Hp → Prop} {W : Nat → Nat → List V → Hp → Prop} {E : XK}
    (T : Turn X.prog X.w X.K tg J fp it tn) (hco : ce.scope.isCoroutine = false) (hgo : ∀ h : Heap, h.get? a = some go → h.IsGen a gn) (hfa : ∀ b ∈ fp, a ≠ b ∧ S ≠ b) (haS : a ≠ S)
    (ap : Apart (gcx X (A.over (.compLoop (gexp elt tg iter ifs sc pos) 0 (.ref it) .none ce) []) sc0 H1 ce fp [(a, go)]) S)
    (pg : PG (gcx X (A.over (.compLoop (gexp elt tg iter ifs sc pos) 0 (.ref it) .none ce) []) sc0 H1 ce fp [(a, go)]) tg g) (pt : PTs (gcx X (A.over (.compLoop (gexp elt tg iter ifs sc pos) 0 (.ref it) .none ce) []) sc0 H1 ce fp [(a, go)]) ifs tt)
    (pe : PE (gcx X (A.over (.compLoop (gexp elt tg iter ifs sc pos) 0 (.ref it) .none ce) []) sc0 H1 ce fp [(a, go)]) elt te) (turn : Turns J g tt te vs σ cont W) :
    ∀ (m i : Nat) (ys : List V) (n : Nat) (s0 : Shared) (H : Hp) (s : Shared), W i m ys H → n + ys.length = sizeLine → GI (gcx X (A.over (.compLoop (gexp elt tg iter ifs sc pos) 0 (.ref it) .none ce) []) sc0 H1 ce fp [(a, go)]) S [] ys (wipe σ vs) H s → tn i s.heap → (∀ b ∈ fp, H b = none) →
      Seg (model X.prog X.w) A (REnd X.prog X.w X.stack H1 sc0 fp S a gn cont E) (YItem sc0 S a gn) n s0 (.compLoop (gexp elt tg iter ifs sc pos) 0 (.ref it) .none ce) ((model X.prog X.w).den (.compLoop (gexp elt tg iter ifs sc pos) 0 (.ref it) .none ce)) [] s := by
  generalize hY : gcx X (A.over (.compLoop (gexp elt tg iter ifs sc pos) 0 (.ref it) .none ce) []) sc0 H1 ce fp [(a, go)] = Y at ap pg pt pe ⊢
  have yA : Y.A = A.over (.compLoop (gexp elt tg iter ifs sc pos) 0 (.ref it) .none ce) [] := by rw [← hY]; rfl
  have yP : Y.prog = X.prog := by rw [← hY]; rfl
  have yw : Y.w = X.w := by rw [← hY]; rfl
  have yK : Y.K = X.K := by rw [← hY]; rfl
  have yc : Y.calm = true := by rw [← hY]; rfl
  have ye : Y.env = ce := by rw [← hY]; rfl
  have yx : Y.ex = fp := by rw [← hY]; rfl
  have yp : Y.pn = [(a, go)] := by rw [← hY]; rfl
  have yxe : Y.xe = fun _ _ => False := by rw [← hY]; rfl
  have ys0 : Y.s_0 = sc0 := by rw [← hY]; rfl
  have yH0 : Y.H_0 = H1 := by rw [← hY]; rfl
  have yfs : Y.fs = frs X.stack := by rw [← hY]; rfl
  have stat : ∀ {pl : List (Addr × Obj)} {σ' : L2.St} {H' : Hp} {s' : Shared}, (∀ p ∈ pl, ∀ b ∈ fp, p.1 ≠ b) → Inv Y pl σ' H' s' → (∀ b ∈ fp, H' b = none) → ∀ b ∈ fp, FpOk Y pl H' b := fun {pl σ' H' s'} hpl I' hn b hb => by
    have hb2 : b ∈ Y.ex := by rw [yx]; exact hb
    refine ⟨hn b hb, (I'.ok.exf b hb2).1, I'.ok.exfs b hb2, .inl hb2, fun x c e => (I'.ok.exf b hb2).2 x c e, fun p hp => ?_⟩
    rw [yp] at hp
    rcases List.mem_append.mp hp with z | z
    · rw [List.mem_singleton.mp z]
      exact (hfa b hb).1
    · exact hpl p z b hb
  intro m
  induction m using Nat.strongRecOn with
  | ind m ih =>
    intro i ys n s0 H s w en G st fr
    obtain ⟨acc, c, rv, I⟩ := G
    have hS1 : ∀ p ∈ [(S, lstObj acc c)], ∀ b ∈ fp, p.1 ≠ b := fun p hp b hb => by
      rw [List.mem_singleton.mp hp]
      exact (hfa b hb).2
    show Seg _ A _ _ _ s0 _ ((compTurn (gexp elt tg iter ifs sc pos) 0 (.ref it) .none ce).onRaise (leaving ce)) [] s
    rw [show compTurn (gexp elt tg iter ifs sc pos) 0 (.ref it) .none ce = _ from compTurn_gen .., Sem.onRaise_eq_wrap]
    refine seg_bind_wrap (wpAny_standAt (seg_bind_wrap ?_))
    rcases turn i m ys H w with ⟨stop, q⟩ | ⟨go1, Nx, hNx, step⟩
    · have td := T.done Y yP yw yK yc i _ s _ H (fun _ _ => False) I (stat hS1 I fr) st stop
      rw [yA] at td
      refine thnF td fun r s6 ⟨hr, I6⟩ => ?_
      subst hr
      obtain ⟨p1, p2, _⟩ := I6.pin (S, lstObj acc c) (List.mem_append_right _ List.mem_cons_self)
      have hb := I6.base
      rw [yfs, yx, yH0, ys0] at hb
      have ho := I6.hok
      rw [yP, yw] at ho
      have hos := I6.os
      rw [ys0] at hos
      exact seg_end (.ok .next) (.inl ⟨.inr rfl, H, ys, acc, c, hos, I6.bare, hb, ho, p2, p1, rv, by omega, q⟩)
    · have ti := T.item Y yP yw yK yc i _ s _ H (fun _ _ => False) I (stat hS1 I fr) st go1
      rw [yA] at ti
      refine thnF ti fun r s6 ⟨u, hr, h6⟩ => ?_
      subst hr
      refine seg_bind_wrap (thnF h6 fun _ s7 ⟨x, H7, I7, r7, y7, st7, n7⟩ => ?_)
      have I7p := I7.pinned (stat hS1 I7 n7) (T.obj _ _ st7)
      have sg := pg.run _ s7 _ H7 x u _ I7p r7 (step x H7 y7)
      rw [yA, yP, yw, ye, yxe] at sg
      refine seg_bind_wrap (thnF sg fun _ s8 ⟨σ8, H8, I8, hw8, q8⟩ => ?_)
      have sp := pt.run _ s8 σ8 H8 _ I8 q8
      rw [yA, yP, yw, ye, yxe] at sp
      refine seg_bind_wrap (thnF sp fun b s9 ⟨H9, I9, q9⟩ => ?_)
      have fin : ∀ {ys' : List V} {H' : Hp} {s' : Shared} (n' : Nat) (s0' : Shared), GI Y S (pinsAt fp s7.heap) ys' σ8 H' s' → Nx ys' H' → n' + ys'.length = sizeLine →
          Seg (model X.prog X.w) A (REnd X.prog X.w X.stack H1 sc0 fp S a gn cont E) (YItem sc0 S a gn) n' s0' (.compLoop (gexp elt tg iter ifs sc pos) 0 (.ref it) .none ce) ((model X.prog X.w).den (.compLoop (gexp elt tg iter ifs sc pos) 0 (.ref it) .none ce)) [] s' := fun {ys' H' s'} n' s0' G' nx en' => by
        obtain ⟨m2, hm, w2⟩ := hNx ys' H' nx
        obtain ⟨acc2, c2, rv2, I2⟩ := G'
        have pin2 : ∀ b ∈ fp, ∀ o, s7.heap.get? b = some o → s'.heap.get? b = some o ∧ H' b = none := fun b hb o e =>
          let z := I2.pin (b, o) (List.mem_append_right _ (List.mem_cons_of_mem _ (mem_pinsAt hb e)))
          ⟨z.1, z.2.1⟩
        have hl : (wipe σ vs).length = σ8.length := by rw [← hw8, wipe_length]
        have I3 : Inv Y [(S, lstObj acc2 c2)] σ8 H' s' := I2.pins_of fun p hp => by
          rw [List.mem_singleton.mp hp]
          exact I2.pin (S, lstObj acc2 c2) (List.mem_append_right _ List.mem_cons_self)
        refine ih m2 hm (i + 1) ys' n' s0' H' s' w2 en' ⟨acc2, c2, rv2, I3.weak hl fun j v e => ?_⟩ (T.keep _ _ _ st7 fun b hb o e => (pin2 b hb o e).1) fun b hb => ?_
        · rw [← hw8] at e
          exact (wipe_some e).1
        · obtain ⟨o, e, _⟩ := T.obj _ _ st7 b hb
          exact (pin2 b hb o e).2
      cases b with
      | false =>
        simp only [Bool.false_eq_true, if_false] at q9 ⊢
        exact seg_again rfl (fin n s0 ⟨acc, c, rv, I9⟩ q9 en)
      | true =>
        simp only [if_true] at q9
        obtain ⟨hz, q9⟩ := q9
        have yo : ∀ v, yieldOut ce v = yieldValue v := fun v => by simp [yieldOut, hco]
        simp only [if_true, yo]
        rw [Sem.bind_eq_wrap', Sem.bind_eq_wrap', Sem.wrap_wrap, Sem.wrap_wrap]
        have se := pe.run _ s9 σ8 H9 _ I9 q9
        rw [yA, yP, yw, ye, yxe] at se
        refine seg_wrap (thnF se fun v s10 ⟨y, H10, I10, r10, nx⟩ => ?_)
        obtain ⟨n, rfl⟩ : ∃ k, n = k + 1 := ⟨n - 1, by omega⟩
        have pS := (I10.pin (S, lstObj acc c) (List.mem_append_right _ List.mem_cons_self)).1
        have pa := (I10.pin (a, go) (List.mem_append_left _ (by rw [yp]; exact List.mem_cons_self))).1
        have hos := I10.os
        rw [ys0] at hos
        have hsz : acc.size = ys.length := by
          have e := rv.length
          rw [Array.length_toList] at e
          exact e.symm
        have G10 : GI Y S (pinsAt fp s7.heap) ys σ8 H10 s10 := ⟨acc, c, rv, I10⟩
        refine seg_at (seg_yield rfl rfl rfl ⟨hos, I10.bare, I10.nolimit, hgo _ pa, ⟨acc, c, pS, by rw [hsz]; exact en⟩, fun s11 z => ?_⟩)
        refine seg_again rfl (fin n s11 (G10.woken ?_ ?_ ap r10 z) nx (by rw [List.length_append, List.length_singleton]; omega))
        · intro p hp
          rw [yp] at hp
          rw [List.mem_singleton.mp hp]
          exact haS
        · intro p hp
          exact Ne.symm (hfa _ (of_pinsAt hp).1).2
end
end GZ

set_option Elab.async false
set_option linter.all false
set_option maxRecDepth 100000
set_option maxHeartbeats 2000000
/-! The generator expression as a value: it has not begun yet. -/
namespace GZ
open PySem PySem.Spec PyProof.Rows L2
/-- what a generator expression hands out; P: the def's table, which may grow by the expression's code -/
def tGx (P : Addr) (wi : TI) (g : TG) (tt : TT) (te : TE) (vs : List Nat) : TGen := fun σ H cont => wi σ H fun J H1 => GxR.TabG H1 P ∧ ∀ H2, GxR.Tabbed P H1 H2 → ∃ W : Nat → Nat → List V → Hp → Prop, (∃ m, W 0 m [] H2) ∧ Turns J g tt te vs σ cont W
section
variable {X : Cx}
theorem pgen_gx {c P : Addr} {elt tg iter : Expr} {ifs : List Expr} {sc : Scope} {own : List (Str × Nat)} {pos : Pos} {wi : TI} {g : TG} {tt : TT} {te : TE} {k : Nat} {E : XK} (hN : X.N.Nodup) (hr : Room 0 X.A) (TB : GxR.TabB X.base X.mg c P) (hcode : X.env.code = .ref c)
    (ok : BlkOk X.N X.env.scope sc own) (hco : sc.isCoroutine = false) (nc : ∀ y ∈ sc.names, y.2 ≠ .cell) (dot : sc.names.lookup (".0" : Str) = some NameKind.local) (hi : PI X tg iter wi)
    (hg : ∀ (A : Around) (s : Shared) (H : Hp) (C : Addr) (cd : Value) (fp : List Addr) (pn : List (Addr × Obj)), Room k A → PG (gcx X A s H (gEnv X sc C cd) fp pn) tg g)
    (ht : ∀ (A : Around) (s : Shared) (H : Hp) (C : Addr) (cd : Value) (fp : List Addr) (pn : List (Addr × Obj)), Room k A → PTs (gcx X A s H (gEnv X sc C cd) fp pn) ifs tt)
    (he : ∀ (A : Around) (s : Shared) (H : Hp) (C : Addr) (cd : Value) (fp : List Addr) (pn : List (Addr × Obj)), Room k A → PE (gcx X A s H (gEnv X sc C cd) fp pn) elt te)
    (hs : ∀ x, genFold iter X.env x = pure x := by intro _; rfl) : PGen X (k + 1) (gexp elt tg iter ifs sc pos) (tGx P wi g tt te (own.map (·.2))) E := by
  refine ⟨fun pins s σ H cont I h => ?_⟩
  have hfree : ∀ y ∈ sc.names, y.2 = .free → ∃ c, X.env.cells.lookup y.1 = some c := fun y hy e => (ok.free y hy e).elim (fun k => I.ok.has _ (.inl k)) fun k => I.ok.has _ (.inr k)
  refine wpAny_GeneratorExp_make hco (closure_ok hfree) nc dot ok.kind (by have := hr.dp; omega) ?_ hs
  refine thn (hi.run pins s σ H _ I h) fun v s1 h1 => thn h1 fun itv s2 h2 => ?_
  obtain ⟨it, fp, tn, J, H2, rfl, I2, T, st2, f2, ⟨ps, hP, htr⟩, q⟩ := h2
  have hPs : s2.heap.get? P = some { cls := .none, data := .fields ps } := I2.hok P _ hP
  have chd : PySem.W.CodeHd s2.heap c P := TB.code.keeps I2.bk
  refine ⟨I2.nolimit, ?_⟩
  have go : ∀ (code : Value) (h3 : Heap) (tk : Nat) (ps' : Array Value), Heap.ExtBut P s2.heap h3 → s2.heap.objs.size ≤ h3.objs.size → h3.get? P = some { cls := .none, data := .fields ps' } → (∃ more, ps' = ps ++ more) → TriplesOk ps'.toList →
      wpAny (model X.prog X.w) X.A (builtinsFor X.env.globals X.env.builtins) (fun bi s4 =>
        ∀ h', h'.Ns s4.heap.objs.size (fun y => if y = ".0" then some (.ref it) else none) → Heap.SameBut s4.heap.objs.size (s4.heap.push { cls := .type "frame", data := .dict #[] }) h' →
          (fun u s' => ∃ H1 sc ex, Inv X pins σ H1 sc ∧ ExOk X pins ex ∧ GMade X.prog X.w (k + 1) X.stack H1 sc ex cont E u s') (.ref h'.objs.size) { s4 with
            gens := s4.gens.push (.fresh (.compStart (gexp elt tg iter ifs sc pos) 0 (.ref it) .none (genEnv sc (cloFrom X.env.cells sc.names []) s4.heap.objs.size code bi X.env))), toks := s4.toks + 1 + 1 + 1,
            heap := h'.push { cls := .type "generator", data := .fields #[.int s4.gens.size 0, .str "<genexpr>" (s4.toks + 1), .str (X.env.qual ++ "<genexpr>") (s4.toks + 1 + 1)] } }) X.xe { s2 with heap := h3, toks := tk } := by
    intro code h3 tk ps' hx hsz hP3 hmore ht3
    obtain ⟨more, rfl⟩ := hmore
    obtain ⟨bm, ob, e1, e2, e3, e4, e5, e6, e7, e8⟩ := TB.bm
    have I3 : Inv X pins σ (upd H2 P (.tbl (ps ++ more))) { s2 with heap := h3, toks := tk } := GxR.inv_tab (g' := s2.gens) (d' := s2.drawn) I2 hP (fun b u hb e => hx b u hb e) hP3 I2.bare
    refine wpAny_builtinsFor (m := X.mg) (by rw [I2.ok.glob]; exact I2.mod.glob.keeps I3.bk) e1 e2 (I3.bk _ _ e5) e6 e7 e8 ?_
    generalize hs4 : ({ s2 with heap := h3, toks := tk } : Shared) = s4 at I3 ⊢
    have g4 : s4.gens = s2.gens := by rw [← hs4]
    intro h' hn' hs'
    have szp : h'.objs.size = s4.heap.objs.size + 1 := by rw [hs'.1, Heap.size_push]
    have fpP : ∀ b ∈ fp, b ≠ P := fun b hb z => by
      have e := (f2 b hb).1
      rw [z, hP] at e
      cases e
    have fplt : ∀ b ∈ fp, b < s4.heap.objs.size := fun b hb => by
      obtain ⟨o, e, _⟩ := T.obj _ _ st2 b hb
      rw [← hs4]
      exact Nat.lt_of_lt_of_le (Heap.lt_size e) hsz
    have f4 : ∀ b ∈ fp, FpOk X pins (upd H2 P (.tbl (ps ++ more))) b ∧ b < s4.heap.objs.size := fun b hb => ⟨⟨by rw [upd_ne (fpP b hb)]; exact (f2 b hb).1, (f2 b hb).2⟩, fplt b hb⟩
    have st4 : tn 0 s4.heap := T.keep _ _ _ st2 fun b hb o e => by
      rw [← hs4]
      exact hx b o (fpP b hb) e
    generalize hgo : ({ cls := .type "generator", data := .fields #[.int s4.gens.size 0, .str "<genexpr>" (s4.toks + 1), .str (X.env.qual ++ "<genexpr>") (s4.toks + 1 + 1)] } : Obj) = gob
    have isg : ∀ h : Heap, h.get? h'.objs.size = some gob → h.IsGen h'.objs.size s4.gens.size := fun h e => ⟨gob, _, _, e, by rw [← hgo], by rw [← hgo], by rw [← hgo]⟩
    have gat : (h'.push gob).get? h'.objs.size = some gob := Heap.get?_push_size _ (by rw [← hgo] <;> rfl)
    have kp5 : ∀ b o, s4.heap.get? b = some o → (h'.push gob).get? b = some o := fun b o e => Heap.get?_push_of_some _ (hs'.extBut b o (Nat.ne_of_lt (Heap.lt_size e)) (Heap.get?_push_of_some _ e))
    refine ⟨_, s4, fp, I3, fun b hb => ⟨(f2 b hb).2.2.2.1, (f2 b hb).2.1, (f2 b hb).2.2.2.2.1, (f2 b hb).2.2.2.2.2⟩, h'.objs.size, s4.gens.size, _, rfl, by omega, by rw [Heap.size_push]; exact Nat.lt_succ_self _, isg _ gat, Array.getElem?_push_size .., rfl, AllBare.push I3.bare rfl, I3.nolimit.keeps kp5, kp5, ?_⟩
    intro A S t hrA hfr hS hk hSo hos hba
    obtain ⟨cS, hcS⟩ := hSo
    have hS2 : h'.objs.size < S := by
      have z : (h'.push gob).objs.size ≤ S := hS
      rw [Heap.size_push] at z
      exact z
    have lt4 : s4.heap.objs.size < h'.objs.size := by omega
    have hYh : (A.over (.compLoop (gexp elt tg iter ifs sc pos) 0 (.ref it) .none (gEnv X sc s4.heap.objs.size code)) []).handled = none := hrA.hd
    have hYf : (A.over (.compLoop (gexp elt tg iter ifs sc pos) 0 (.ref it) .none (gEnv X sc s4.heap.objs.size code)) []).frames = some (gEnv X sc s4.heap.objs.size code :: X.stack) := by
      show Option.map _ A.frames = _
      rw [hfr]
      rfl
    have hYr : Room k (A.over (.compLoop (gexp elt tg iter ifs sc pos) 0 (.ref it) .none (gEnv X sc s4.heap.objs.size code)) []) :=
      ⟨hYh, by have := hrA.dp; show A.depth + 1 + 3 * k + 5 < _; omega, by have := hrA.un; show A.units + 3 + 16 * k + 200 < _; omega⟩
    obtain ⟨W, ⟨m0, w0⟩, turns⟩ := q (upd H2 P (.tbl (ps ++ more))) ⟨⟨ps ++ more, upd_same, ht3⟩, fun b hb => upd_ne hb⟩
    have I5 := gen_start (t := t) (pn := [(h'.objs.size, gob)]) (pl := [(S, lstObj #[] cS)]) (cd := code) I3 ok hN nc f4 hYh hYf (fun b o e => hk b o (kp5 b o e)) hos hba ((hn'.push _).keeps hk) fun p hp => by
      rcases List.mem_cons.mp hp with z | z
      · rw [z]
        exact ⟨hk _ _ gat, by show s4.heap.objs.size < h'.objs.size; omega, fun v e => by rw [← hgo] at e; cases e⟩
      · rw [List.mem_singleton.mp z]
        exact ⟨hcS, by show s4.heap.objs.size < S; omega, fun v e => by cases e⟩
    have st5 : tn 0 t.heap := T.keep _ _ _ st4 fun b hb o e => hk b o (kp5 b o e)
    have L := gx_loop (iter := iter) (sc := sc) (pos := pos) (gn := s4.gens.size) (E := E) T hco isg (fun b hb => ⟨Nat.ne_of_gt (Nat.lt_trans (fplt b hb) lt4), Nat.ne_of_gt (Nat.lt_trans (fplt b hb) (Nat.lt_trans lt4 hS2))⟩) (Nat.ne_of_lt hS2)
      ⟨Nat.le_of_lt (Nat.lt_trans lt4 hS2), Nat.ne_of_gt (Nat.lt_trans lt4 hS2), fun y cc e z => by
        obtain ⟨v, z2⟩ := I3.cell y cc (NdefX.clo_cm hfree e)
        have := z2.lt
        rw [z] at this
        exact Nat.lt_irrefl _ (Nat.lt_trans this (Nat.lt_trans lt4 hS2))⟩
      (hg _ s4 _ s4.heap.objs.size code fp _ hYr) (ht _ s4 _ s4.heap.objs.size code fp _ hYr) (he _ s4 _ s4.heap.objs.size code fp _ hYr) turns m0 0 [] sizeLine t _ t w0 rfl ⟨#[], cS, .nil, I5⟩ st5 fun b hb => (f4 b hb).1.1
    show Seg _ A _ _ _ t _ ((compStart (gexp elt tg iter ifs sc pos) 0 (.ref it) .none (gEnv X sc s4.heap.objs.size code)).onRaise (leaving (gEnv X sc s4.heap.objs.size code))) [] t
    unfold compStart
    rw [Sem.onRaise_eq_wrap]
    show Seg _ A _ _ _ t _ ((ask >>= _).wrap _ _ _ _) [] t
    refine seg_bind_wrap (wpAny_askSetting ?_)
    split
    · exact seg_again rfl L
    · refine seg_bind_wrap (wpAny_rule ?_)
      show Seg _ A _ _ _ t _ ((standAt iter.pos >>= _).wrap _ _ _ _) [] t
      exact seg_bind_wrap (wpAny_standAt (seg_bind_wrap (T.self _ 0 t _ _ st5 (seg_again rfl L))))
  cases hf : codeAmong pos ps.toList with
  | none =>
    refine wpAny_genexprCodeX hcode (chd.code hPs htr) (chd.tab hPs) hf fun c' h' tk hx hge hlt hco' _ htab' _ => ?_
    obtain ⟨o1, vs, f1, tf, fl, tg, inF, tx, tt, op, _, _, _, _, _, _, _, _, _, htr', _⟩ := hco'
    exact go _ h' tk _ hx (Nat.le_trans hge (Nat.le_of_lt hlt)) htab'.2 ⟨_, rfl⟩ htr'
  | some cv =>
    refine wpAny_genexprCode_hit hcode (chd.code hPs htr) hf ?_
    exact go cv s2.heap s2.toks ps (Heap.ExtBut.refl _ _) (Nat.le_refl _) hPs ⟨#[], by simp⟩ htr
end
end GZ

set_option Elab.async false
set_option linter.all false
set_option maxRecDepth 100000
set_option maxHeartbeats 2000000
/-! tuple(..) and sorted(..) of a generator that has not begun. -/
namespace GZ
open PySem PySem.Spec PyProof.Rows L2
/-- no exception -/
abbrev noX : XK := fun _ _ _ => False
theorem no_cx {P : Program} {w : World} {outer : List Env} {H : Hp} {sc s : Shared} {e : Value} (h : CX P w outer H sc noX e s) : False := by
  obtain ⟨a, B, H2, cls, d, _, _, _, _, _, _, _, z⟩ := h
  exact z
theorem collect_gm {P : Program} {w : World} {outer : List Env} {H : Hp} {sc s : Shared} {ex : List Addr} {Q : List V → Hp → Prop} {A : Around} {k : Nat} {u : Value} {Q' : List Value → Shared → Prop} {E : Value → Shared → Prop}
    (hr : Room (k + 3) A) (hfr : A.frames = some outer) (h : GMade P w k outer H sc ex Q noX u s)
    (hQ : ∀ (s' : Shared) (acc : Array Value) (H' : Hp) (ys : List V), Vals ys acc.toList → ys.length ≤ sizeLine → s'.os = sc.os → AllBare s'.gens → Un (frs outer) ex H H' sc.heap s'.heap → HOk P w H' s'.heap → Q ys H' → Q' acc.toList s') :
    wpAny (model P w) A (collect u) Q' E s := by
  obtain ⟨a, g, c, rfl, ha1, ha2, hg, hgs, hos, hb, hl, hkp, wake⟩ := h
  generalize hLA : s.heap.objs.size = L at ha2
  have neA : L ≠ a := Nat.ne_of_gt ha2
  have neC : L ≠ cStatics := by
    obtain ⟨_, hn, _⟩ := hl
    have := hn.lt
    exact Nat.ne_of_gt (by rw [← hLA]; exact this)
  unfold collect
  refine wpAny_bind (wpAny_runValue (codeAny_builtin F.entry_proto_collect ?_))
  rw [Around.under_plainId F.plain_proto_collect _]
  show wpAny _ A.in1 (newList [] >>= fun l => again (.builtin "list.__iadd__" ⟨[l, .ref a], []⟩)) _ _ s
  refine wpAny_bind (wpAny_newObj_type ?_)
  refine wpAny_pure ⟨plainId_quiet F.plain_list_iadd _, codeAny_builtin F.entry_list_iadd ?_⟩
  rw [Around.under_plainId F.plain_list_iadd _, hLA]
  generalize hp1 : s.heap.push { cls := .type "list", data := .seq ([] : List Value).toArray } = h1
  have k1 : ∀ b o, s.heap.get? b = some o → h1.get? b = some o := fun b o e => by
    rw [← hp1]
    exact Heap.get?_push_of_some _ e
  have o1 : h1.get? L = some { cls := .type "list", data := .seq ([] : List Value).toArray } := by
    rw [← hp1, ← hLA]
    exact Heap.get?_push_size _ rfl
  have g1 : h1.IsGen a g := hg.keeps k1
  show wpAny _ A.in1 (Builtin.List.listExtendWith (.ref L) (.ref a) (.ref L)) _ _ _
  unfold Builtin.List.listExtendWith
  refine wpAny_bind (wpAny_typeOf (Heap.IsGen.typeIs (s := { s with heap := _ }) g1) ?_)
  have q1 : Builtin.List.listSameRef (.ref L) (.ref a) = false := by simp [Builtin.List.listSameRef, neA]
  have q2 : (Value.type "generator" == Value.type "list") = false := by decide
  have q3 : (Value.type "generator" == Value.type "tuple") = false := by decide
  simp only [q1, q2, q3, Bool.or_false, Bool.false_eq_true, if_false]
  refine wpAny_bind (wpAny_pyIter_gen (s := { s with heap := _ }) g1 (wpAny_bind (wpAny_holding ?_)))
  unfold Builtin.List.listLengthHint
  refine wpAny_bind (wpAny_specialOf (Heap.IsGen.typeIs (s := { s with heap := _ }) g1) F.gen_no_len ?_)
  show wpAny _ A.in1 (specialOf (Value.ref a) (Str.ofString "__length_hint__") >>= _) _ _ _
  refine wpAny_bind (wpAny_specialOf (Heap.IsGen.typeIs (s := { s with heap := _ }) g1) F.gen_no_hint (wpAny_pure ?_))
  show wpAny _ A.in1 (rule "list.extend.makes-room" >>= fun _ => Builtin.List.listTouch (.ref L) >>= fun _ => again (.builtin "list.extend.loop" ⟨[.ref L, .ref a, .ref L], []⟩)) _ _ _
  refine wpAny_bind (wpAny_rule (wpAny_bind ?_))
  show wpAny _ A.in1 (updateSeq L (·.push .none) >>= fun _ => updateSeq L (·.pop)) _ _ _
  refine wpAny_bind (wpAny_updateSeq o1 rfl ?_)
  have o2 := Heap.get?_update_self (Obj.mapSeq (·.push Value.none)) o1 rfl
  refine wpAny_updateSeq o2 rfl ?_
  have o3 := Heap.get?_update_self (Obj.mapSeq (·.pop)) o2 rfl
  have k3 : ∀ b o, s.heap.get? b = some o → ((h1.update L (Obj.mapSeq (·.push Value.none))).update L (Obj.mapSeq (·.pop))).get? b = some o := fun b o e => by
    have nb : L ≠ b := by
      rw [← hLA]
      exact Nat.ne_of_gt (Heap.lt_size e)
    exact (Heap.get?_update_other _ _ nb).trans ((Heap.get?_update_other _ _ nb).trans (k1 b o e))
  refine wpAny_pure ⟨plainId_quiet F.plain_extend_loop _, ?_⟩
  refine drain (P := P) (w := w) (outer := outer) (H := H) (sc := sc) (ex := ex) (Q := Q) (EX := noX) (A := A) (g := g) hr.hd (by have := hr.dp; omega) neA neC (fun s' acc c H' ys r1 r2 r3 r4 r5 r6 r7 r8 r9 => ?_) (fun e s' hc => (no_cx hc).elim)
    sizeLine _ (hg.keeps k3) (hl.keeps k3) ⟨_, hgs, rfl, ?_⟩
  · show wpAny _ A (load L >>= _) _ _ s'
    exact wpAny_bind (wpAny_load r1 (wpAny_pure (hQ s' acc H' ys r2 r3 r4 r5 r6 r7 r9)))
  · refine wake _ _ _ ⟨hr.hd, ?_, ?_⟩ hfr (Nat.le_of_eq hLA) k3 ⟨_, o3⟩ hos (allBare_setGen (s := { s with heap := _ }) hb rfl)
    · have := hr.dp
      show A.depth + 3 * k + 5 < _
      omega
    · have := hr.un
      show A.units + 1 + 1 + 16 * k + 200 < _
      omega
section
variable {X : Cx} {k : Nat} {e : Expr} {tg : TGen} {pos p : Pos}
/-- what has come out of the generator, in the state behind it -/
theorem collect_run {A : Around} {pins : List (Addr × Obj)} {σ : L2.St} {H1 : Hp} {sc s : Shared} {ex : List Addr} {cont : List V → Hp → Prop} {u : Value} {Q' : List Value → Shared → Prop} {E : Value → Shared → Prop} (hr : Room (k + 3) A) (hA : A.frames = X.A.frames) (I : Inv X pins σ H1 sc) (hex : ExOk X pins ex)
    (G : GMade X.prog X.w k X.stack H1 sc ex cont noX u s) (hQ : ∀ s' us H' ys, Inv X pins σ H' s' → Vals ys us → ys.length ≤ sizeLine → cont ys H' → Q' us s') : wpAny (model X.prog X.w) A (collect u) Q' E s :=
  collect_gm hr (hA.trans I.ok.frames) G fun s' acc H' ys r1 r2 r3 r4 r5 r6 r7 => hQ s' acc.toList H' ys (I.call' (ch := ex) r3 r5 r6 r4 hex) r1 r2 r7
def tTupG (tg : TGen) : TE := fun σ H Q => tg σ H fun out H2 => ∀ p, H2 p = none → Q (.ref p) (upd H2 p (.tup out))
/-- tuple(g) -/
theorem pe_tupG (h : PGen X k e tg noX) (hr : Room (k + 5) X.A) (hg : Gl X "tuple") (hmg : X.mg "tuple" = none) (he : starEach [e] X.env = (false, eval e X.env) :: starEach [] X.env := by rfl) : PE X (.Call (.Name "tuple" p) [e] [] pos) (tTupG tg) := by
  refine ⟨fun pins s σ H Q I hq => ?_⟩
  refine wpAny_Call_Name_kw (ld_blt (u := .type "tuple") I hg hmg rfl ?_ (by decide) (by decide))
  refine PyProof.Rows.callWith_type1 ?_ he rfl
  rw [he]
  show wpAny _ _ (spliced ((false, eval e X.env) :: backTo pos (starEach [] X.env))) _ _ s
  refine Calls.spliced_cons (thn (h.run pins s σ H _ I hq) fun u s1 ⟨H1, sc, ex, I1, hex, hG⟩ => Calls.spliced_nil ?_)
  have hgen : s1.TypeIs u "generator" := by
    obtain ⟨a, g, c, rfl, _, _, hg, _⟩ := hG
    exact hg.typeIs
  refine callType_codes (Q₁ := fun obj s2 => s2.TypeIs obj "tuple" ∧ EP X pins σ Q obj s2) F.called_tuple (F.typeCall_tuple_1 _) F.entry_object_init ?_ fun obj s2 h2 => ?_
  · refine codeAny_of_tree ?_
    show wpAny _ X.A.in1.in1 (do checkBuiltinCall "tuple.__new__" ⟨[.type "tuple", u], []⟩; again (.builtin "tuple.__new__" ⟨[.type "tuple", u], []⟩)) _ _ s1
    refine wpAny_bind (wpAny_of_eq (F.newCall_tuple_1 _) (wpAny_pure ⟨plainId_quiet F.plain_tuple_new _, codeAny_builtin F.entry_tuple_new ?_⟩))
    rw [Around.under_plainId F.plain_tuple_new _]
    have f1 := sub_tuple_self
    have f2 := init_tuple_lookup
    have f3 := madeHere_tuple
    have hrr : Room (k + 3) X.A.in1.in1 := ⟨hr.hd, by have := hr.dp; show X.A.depth + 3 * (k + 3) + 5 < _; omega, by have := hr.un; show X.A.units + 1 + 1 + 16 * (k + 3) + 200 < _; omega⟩
    wp_walk using wpAny_typeOf hgen, collect_run hrr rfl I1 hex hG
    intro s3 us H3 ys I3 rv hlen q
    show wpAny _ _ (Builtin.Tuple.tupleExact us.toArray >>= fun v => ret v) _ _ _
    unfold Builtin.Tuple.tupleExact
    have hus : us.length ≤ sizeLine := by rw [← rv.length]; exact hlen
    refine wpAny_bind (wpAny_newObj_type (wpAny_pure ?_) (by show us.toArray.size ≤ sizeLine; rw [List.size_toArray]; exact hus))
    have at_ : (s3.heap.push { cls := .type "tuple", data := .seq us.toArray }).get? s3.heap.objs.size = some { cls := .type "tuple", data := .seq us.toArray } := Heap.get?_push_size _ rfl
    refine ⟨⟨_, at_, rfl⟩, .ref s3.heap.objs.size, upd H3 s3.heap.objs.size (.tup ys), I3.laid (t' := s3.toks) (fun b o e => Heap.get?_push_of_some _ e) (Nat.le_refl _) ⟨hlen, us, rv, ?_⟩, rfl, q _ (I3.hok.fresh (Nat.le_refl _))⟩
    exact ⟨_, at_, rfl, _, rfl⟩
  · exact ⟨h2.1, F.args_object_init_2 obj _, object_init_meets F.called_tuple.init.lookup F.called_tuple.made (by decide) _ _ X.A.in1 _ s2 ⟨h2.1, rfl, h2.2⟩⟩
end
end GZ

set_option Elab.async false
set_option linter.all false
set_option maxRecDepth 100000
set_option maxHeartbeats 2000000
/-! sorted(..) of a generator that hands out texts. -/
namespace GZ
open PySem PySem.Spec PyProof.Rows L2
theorem strs_of_vals {ks : List Str} {us : List Value} (r : Vals (ks.map V.str) us) : StrsAre us ks := by
  have hl : us.length = ks.length := by
    have e := r.length
    rw [List.length_map] at e
    exact e.symm
  refine strs_at hl fun j v e => ?_
  have hj : j < ks.length := by
    have := (List.getElem?_eq_some_iff.mp e).1
    omega
  have e2 : (ks.map V.str)[j]? = some (.str ks[j]) := by
    rw [List.getElem?_map, List.getElem?_eq_getElem hj]
    rfl
  obtain ⟨u, e3, t, rfl⟩ := r.get e2
  rw [e] at e3
  cases e3
  exact ⟨ks[j], t, List.getElem?_eq_getElem hj, rfl⟩
section
variable {X : Cx} {k : Nat} {e : Expr} {tg : TGen} {pos p : Pos}
/-- a call of sorted, by what the collected items do when their list is sorted -/
theorem pe_srt (h : PGen X k e tg noX) (hr : Room (k + 5) X.A) (hg : Gl X "sorted") (hmg : X.mg "sorted" = none) (c : VK → List V → Hp → Prop)
    (ht : ∀ (Q : VK) (ys : List V) (H2 : Hp), c Q ys H2 → ∀ (pins : List (Addr × Obj)) (σ : L2.St) (s : Shared) (us : List Value), Inv X pins σ H2 s → Vals ys us → ys.length ≤ sizeLine → wpAny (model X.prog X.w) X.A.in1.in1 (Builtin.«list.sort» ⟨[.ref s.heap.objs.size], []⟩)
      (fun f s' => f = .done (.ret .none) ∧ EP X pins σ Q (.ref s.heap.objs.size) s') X.xe { s with heap := s.heap.push (seqObj "list" us.toArray 0) })
    (he : starEach [e] X.env = (false, eval e X.env) :: starEach [] X.env := by rfl) : PE X (.Call (.Name "sorted" p) [e] [] pos) (fun σ H Q => tg σ H (c Q)) := by
  refine ⟨fun pins s σ H Q I hq => ?_⟩
  refine wpAny_Call_Name_kw (ld_blt (u := .builtin "sorted") I hg hmg rfl ?_ (by decide) (by decide))
  rw [he]
  refine Calls.callWith_builtin rfl (Calls.evalArgs_plain ?_)
  show wpAny _ _ (spliced ((false, eval e X.env) :: backTo pos (starEach [] X.env))) _ _ s
  refine Calls.spliced_cons (thn (h.run pins s σ H _ I hq) fun u s1 ⟨H1, sc, ex, I1, hex, hG⟩ => Calls.spliced_nil ?_)
  refine Calls.call_function_entry PyProof.Rows.kind_sorted PyProof.Rows.plain_sorted PyProof.Rows.entry_sorted (PyProof.Rows.args_sorted1 _) ?_
  unfold Builtin.«sorted»
  have hrr : Room (k + 3) X.A.in1 := ⟨hr.hd, by have := hr.dp; show X.A.depth + 3 * (k + 3) + 5 < _; omega, by have := hr.un; show X.A.units + 1 + 16 * (k + 3) + 200 < _; omega⟩
  refine wpAny_bind (m := checkCount "sorted" 1 1 _) (wpAny_pure (wpAny_bind (collect_run hrr rfl I1 hex hG fun s3 us H3 ys I3 rv hlen q => ?_)))
  have hus : us.length ≤ sizeLine := by rw [← rv.length]; exact hlen
  refine wpAny_bind (wpAny_newList ?_ hus)
  have at_ : (s3.heap.push (seqObj "list" us.toArray 0)).get? s3.heap.objs.size = some (seqObj "list" us.toArray 0) := Heap.get?_push_size _ rfl
  have z := ht Q ys H3 q pins σ s3 us I3 rv hlen
  refine wpAny_bind (wpAny_holding (wpAny_call_entry PyProof.Rows.slot_list_sort ⟨_, at_, rfl⟩ PyProof.Rows.entry_list_sort (thn z fun f s4 hf => ?_) (PyProof.Rows.args_list_sort _)))
  obtain ⟨rfl, hEP⟩ := hf
  exact ⟨_, rfl, wpAny_pure ⟨_, rfl, hEP⟩⟩
def cSrtG (Q : VK) (out : List V) (H2 : Hp) : Prop := ∃ ks : List Str, out = ks.map V.str ∧ ks.length < 64 ∧ ∀ ys p, ys.Perm ks → sortedS ys = true → H2 p = none → Q (.ref p) (upd H2 p (.lst (ys.map V.str)))
def tSrtG (tg : TGen) : TE := fun σ H Q => tg σ H (cSrtG Q)
/-- sorted(g) of fewer than 64 texts -/
theorem pe_srtG (h : PGen X k e tg noX) (hr : Room (k + 5) X.A) (hg : Gl X "sorted") (hmg : X.mg "sorted" = none) (he : starEach [e] X.env = (false, eval e X.env) :: starEach [] X.env := by rfl) :
    PE X (.Call (.Name "sorted" p) [e] [] pos) (tSrtG tg) := by
  refine pe_srt h hr hg hmg cSrtG (fun Q out H2 z pins σ s us I rv hlen => ?_) he
  obtain ⟨ks, rfl, h64, q⟩ := z
  have hS := strs_of_vals rv
  have hal : us.length = ks.length := by
    have e := rv.length
    rw [List.length_map] at e
    exact e.symm
  have at_ : (s.heap.push (seqObj "list" us.toArray 0)).get? s.heap.objs.size = some (seqObj "list" us.toArray 0) := Heap.get?_push_size _ rfl
  refine list_sort_treeK strKind_oneLt (s := { s with heap := s.heap.push (seqObj "list" us.toArray 0) }) at_ hS.keysOf (fun v₁ v₂ rest e => keyKind_strs (by rw [← e]; exact hS)) (by rw [hal]; exact h64) fun st' hp hs => ⟨rfl, ?_⟩
  obtain ⟨ys, g1, g2, g3⟩ := sorted_out_str hS hp hs
  obtain ⟨e', he'⟩ := PyProof.Rows.sortedHeap_at (vs := us) (out := (arrOf st').map (·.2)) at_
  have hlen2 : (ys.map V.str).length ≤ sizeLine := by
    rw [List.length_map, g2.length_eq]
    exact Wr.sz (by omega)
  refine ⟨.ref s.heap.objs.size, upd H2 s.heap.objs.size (.lst (ys.map V.str)), I.laid (t' := s.toks) (fun b u e => ?_) (Nat.le_refl _) (show ObjOk X.prog X.w _ _ _ (.lst (ys.map V.str)) from ⟨hlen2, ((arrOf st').map (·.2)).toList, e', vals_of_strs g1, ?_⟩), rfl, q ys _ g2 g3 (I.hok.fresh (Nat.le_refl _))⟩
  · have hb : b < s.heap.objs.size := Heap.lt_size e
    rw [PyProof.Rows.sortedHeap_old (Nat.ne_of_lt hb) (by rw [size_push']; exact Nat.lt_succ_of_lt hb)]
    exact Heap.get?_push_of_some _ e
  · rw [Array.toArray_toList]
    exact he'
end
end GZ

set_option Elab.async false
set_option linter.all false
set_option maxRecDepth 100000
set_option maxHeartbeats 2000000
/-! sorted(..) of a generator that hands out pairs of a text and an int. -/
namespace GZ
open PySem PySem.Spec PyProof.Rows L2 SrtO
def lexS (p q : Str × Int) : Bool := if p.1 = q.1 then decide (p.2 < q.2) else decide (p.1.cps.toList < q.1.cps.toList)
theorem str_ext {a b : Str} (h : a.cps.toList = b.cps.toList) : a = b := by
  cases a
  cases b
  congr 1
  exact Array.toList_inj.mp h
/-- p is not behind q -/
theorem lexS_no {p q : Str × Int} : lexS q p = false ↔ (p.1 = q.1 ∧ p.2 ≤ q.2) ∨ (p.1 ≠ q.1 ∧ p.1.cps.toList < q.1.cps.toList) := by
  unfold lexS
  by_cases e : q.1 = p.1
  · rw [if_pos e, decide_eq_false_iff_not]
    constructor
    · intro h
      exact .inl ⟨e.symm, by omega⟩
    · intro h
      rcases h with h | h
      · omega
      · exact absurd e.symm h.1
  · rw [if_neg e, decide_eq_false_iff_not]
    constructor
    · intro h
      refine .inr ⟨fun z => e z.symm, ?_⟩
      rcases Std.lt_trichotomy p.1.cps.toList q.1.cps.toList with z | z | z
      · exact z
      · exact absurd (str_ext z).symm e
      · exact absurd z h
    · intro h
      rcases h with h | h
      · exact absurd h.1.symm e
      · exact List.lt_asymm h.2
theorem swo_lexS {α : Type} (k : α → Str × Int) : Swo fun v u => lexS (k v) (k u) := by
  refine ⟨fun x y h => ?_, fun x y z h1 h2 => ?_⟩
  · cases hb : lexS (k y) (k x) with
    | false => rfl
    | true =>
      exfalso
      have n1 : ¬ lexS (k x) (k y) = false := by rw [h]; decide
      have n2 : ¬ lexS (k y) (k x) = false := by rw [hb]; decide
      rw [lexS_no] at n1 n2
      by_cases e : (k x).1 = (k y).1
      · have a1 : ¬ (k y).2 ≤ (k x).2 := fun z => n1 (.inl ⟨e.symm, z⟩)
        have a2 : ¬ (k x).2 ≤ (k y).2 := fun z => n2 (.inl ⟨e, z⟩)
        omega
      · rcases Std.lt_trichotomy (k x).1.cps.toList (k y).1.cps.toList with z | z | z
        · exact n2 (.inr ⟨e, z⟩)
        · exact e (str_ext z)
        · exact n1 (.inr ⟨fun q => e q.symm, z⟩)
  · have a := lexS_no.mp h1
    have b := lexS_no.mp h2
    refine lexS_no.mpr ?_
    rcases a with ⟨a1, a2⟩ | ⟨a1, a2⟩
    · rcases b with ⟨b1, b2⟩ | ⟨b1, b2⟩
      · exact .inl ⟨a1.trans b1, by omega⟩
      · exact .inr ⟨by rw [a1]; exact b1, by rw [a1]; exact b2⟩
    · rcases b with ⟨b1, b2⟩ | ⟨b1, b2⟩
      · exact .inr ⟨by rw [← b1]; exact a1, by rw [← b1]; exact a2⟩
      · have c := List.lt_trans a2 b2
        refine .inr ⟨fun e => ?_, c⟩
        rw [e] at c
        exact List.lt_irrefl _ c
def IsPS (h : Heap) (v : Value) (x : Str) (y : Int) : Prop := ∃ a o t u n, v = .ref a ∧ h.get? a = some o ∧ o.cls = .type "tuple" ∧ o.data = .seq #[.str x t, .int y u] n
theorem IsPS.keeps {h h' : Heap} {v : Value} {x : Str} {y : Int} (p : IsPS h v x y) (k : ∀ b o, h.get? b = some o → o.cls = .type "tuple" → h'.get? b = some o) : IsPS h' v x y :=
  let ⟨a, o, t, u, n, e, ho, hc, hd⟩ := p
  ⟨a, o, t, u, n, e, k a o ho hc, hc, hd⟩
section
variable {prog : Program} {w : World} {A : Around} {s : Shared}
theorem ps_cmp {vs : List Value} {k : Value → Str × Int} (hp : ∀ v ∈ vs, IsPS s.heap v (k v).1 (k v).2) : Cmp prog w A s (tuples' true) (fun p => p.1 ∈ vs) (lt2 fun v u => lexS (k v) (k u)) := by
  intro p q hm hm'
  obtain ⟨a, o, t, u, n, e, ho, hc, hd⟩ := hp _ hm
  obtain ⟨a', o', t', u', n', e', ho', hc', hd'⟩ := hp _ hm'
  show wpAny (model prog w) A (keyLt' (tuples' true) p.1 q.1) (fun r s' => s' = s ∧ r = lexS (k p.1) (k q.1)) (fun _ _ => False) s
  unfold lexS
  generalize (k p.1).1 = x at hd ⊢
  generalize (k p.1).2 = y at hd ⊢
  generalize (k q.1).1 = x' at hd' ⊢
  generalize (k q.1).2 = y' at hd' ⊢
  rw [e, e']
  refine PySem.W.kat_lt ho hd ho' hd' ?_
  show PySem.W.KatLex prog w A true (decide (2 < 2)) _ [(.str x t, .str x' t'), (.int y u, .int y' u')] 0 s
  refine PySem.W.kat_cons (SeqAt.EqAt.str_str x t x' t' prog w _ _ (PySem.W.kat_go (fun e1 => ?_) fun e1 => ?_))
  · have ex : x = x' := by simpa using e1
    simp only [if_pos ex]
    refine PySem.W.kat_yes (PySem.W.kat_cons (SeqAt.EqAt.int_int y u y' u' prog w _ _ (PySem.W.kat_go (fun e2 => ?_) fun e2 => ?_)))
    · have ey : y = y' := by simpa using e2
      exact PySem.W.kat_yes (PySem.W.kat_nil ⟨rfl, by rw [ey]; exact (decide_eq_false (Int.lt_irrefl _)).symm⟩)
    · exact PySem.W.kat_no (PySem.W.kat_one _ _ (PyProof.Rows.lt_int (show s = s ∧ decide (y < y') = decide (y < y') from ⟨rfl, rfl⟩)))
  · have ex : ¬ x = x' := by simpa using e1
    simp only [if_neg ex]
    exact PySem.W.kat_no (oneLt_str ⟨rfl, rfl⟩)
theorem ps_firsts {h : Heap} : ∀ {vs : List Value}, (∀ v ∈ vs, ∃ x y, IsPS h v x y) → ∃ fs : List Value, PySem.W.KatTups h vs fs ∧ fs.length = vs.length ∧ ∀ f ∈ fs, ∃ x t, f = Value.str x t
  | [], _ => ⟨[], .nil, rfl, fun _ z => nomatch z⟩
  | v :: vs, hv => by
    obtain ⟨fs, h1, h2, h3⟩ := ps_firsts fun u hu => hv u (List.mem_cons_of_mem _ hu)
    obtain ⟨x, y, a, o, t, u, n, rfl, ho, hc, hd⟩ := hv v List.mem_cons_self
    refine ⟨.str x t :: fs, .cons ho hc hd rfl h1, by simp [h2], fun f hf => ?_⟩
    rcases List.mem_cons.mp hf with z | z
    · exact ⟨x, t, z⟩
    · exact h3 f z
theorem ps_sortable {a : Addr} {vs : List Value} {k : Value → Str × Int} (h0 : 0 < vs.length) (hp : ∀ v ∈ vs, IsPS s.heap v (k v).1 (k v).2) (ha : ∀ o, s.heap.get? a = some o → o.cls ≠ .type "tuple") : SortableO prog w A s a vs fun v u => lexS (k v) (k u) := by
  intro h' keep
  have hp' : ∀ v ∈ vs, IsPS h' v (k v).1 (k v).2 := fun v hm => (hp v hm).keeps fun b o e c => keep b o (fun z => by subst z; exact ha o e c) e
  obtain ⟨fs, h1, h2, h3⟩ := ps_firsts fun v hm => ⟨_, _, hp' v hm⟩
  refine ⟨tuples' true, fun Q E hq => PySem.W.kat_kind (T := .type "str") h1 (by omega) (fun f hm => ?_) (by rfl) ?_, ps_cmp hp'⟩
  · obtain ⟨x, t, rfl⟩ := h3 f hm
    exact PySem.W.Looks.now
  · have e : (Value.type "str" != Value.type "tuple") = true := by first | decide +kernel | rfl | decide
    rw [e]
    exact hq
end
section
variable {X : Cx} {k : Nat} {e : Expr} {tg : TGen} {pos p : Pos}
def cSrtP (Q : VK) (out : List V) (H2 : Hp) : Prop := ∃ κ : V → Str × Int, (∀ x ∈ out, ∃ t, x = V.ref t ∧ H2 t = some (.tup [.str (κ x).1, .int (κ x).2])) ∧
  ∀ ys p, ys.Perm out → ys.Pairwise (fun x y => lexS (κ y) (κ x) = false) → H2 p = none → Q (.ref p) (upd H2 p (.lst ys))
def tSrtP (tg : TGen) : TE := fun σ H Q => tg σ H (cSrtP Q)
/-- sorted(g) of pairs of a text and an int -/
theorem pe_srtP (h : PGen X k e tg noX) (hr : Room (k + 5) X.A) (hg : Gl X "sorted") (hmg : X.mg "sorted" = none) (he : starEach [e] X.env = (false, eval e X.env) :: starEach [] X.env := by rfl) :
    PE X (.Call (.Name "sorted" p) [e] [] pos) (tSrtP tg) := by
  refine pe_srt h hr hg hmg cSrtP (fun Q out H2 z pins σ s us I rv hlen => ?_) he
  obtain ⟨κ, hx, q⟩ := z
  obtain ⟨e1, e2⟩ := refs_back rv fun x m => by
    obtain ⟨t, e, _⟩ := hx x m
    exact ⟨t, e⟩
  have hz : us.length ≤ sizeLine := by rw [← rv.length]; exact hlen
  have at_ : (s.heap.push (seqObj "list" us.toArray 0)).get? s.heap.objs.size = some (seqObj "list" us.toArray 0) := Heap.get?_push_size _ rfl
  refine list_sort_ord (s := { s with heap := s.heap.push (seqObj "list" us.toArray 0) }) (swo_lexS fun u => κ (backV u)) at_ hz (fun h2 => ps_sortable (by omega) (fun v hv => ?_) fun o e => ?_) fun out2 hs hb => ⟨rfl, ?_⟩
  · obtain ⟨t, rfl⟩ := e2 v hv
    have hm : V.ref t ∈ out := by rw [e1]; exact List.mem_map.mpr ⟨_, hv, rfl⟩
    obtain ⟨t', e, ht⟩ := hx _ hm
    cases e
    obtain ⟨_, its2, r2, o, ho, hc, n, hd⟩ := I.hok _ _ ht
    obtain ⟨u1, u2, rfl, ri, rj⟩ := vals2 r2
    obtain ⟨t1, rfl⟩ := ri
    obtain ⟨t2, rfl⟩ := rj
    exact ⟨t, o, t1, t2, n, rfl, Heap.get?_push_of_some _ ho, hc, hd⟩
  · have e3 : some o = some (seqObj "list" us.toArray 0) := e.symm.trans at_
    cases e3
    intro c
    exact absurd (Value.type.inj c) (by decide)
  · have h3 : ∀ u ∈ out2, ∃ a, u = Value.ref a := fun u hu => e2 u (hb.perm.mem_iff.mp hu)
    have hp : (out2.map backV).Perm out := by
      rw [e1]
      exact hb.perm.map backV
    obtain ⟨e', he'⟩ := PyProof.Rows.sortedHeap_at (vs := us) (out := out2.toArray) at_
    have hl2 : (out2.map backV).length ≤ sizeLine := by
      rw [hp.length_eq]
      exact hlen
    refine ⟨.ref s.heap.objs.size, upd H2 s.heap.objs.size (.lst (out2.map backV)), I.laid (t' := s.toks) (fun b u e => ?_) (Nat.le_refl _) ⟨hl2, out2, e', vals_back h3, he'⟩, rfl, q _ _ hp (srtd_map hs) (I.hok.fresh (Nat.le_refl _))⟩
    have hb : b < s.heap.objs.size := Heap.lt_size e
    rw [PyProof.Rows.sortedHeap_old (Nat.ne_of_lt hb) (by rw [size_push']; exact Nat.lt_succ_of_lt hb)]
    exact Heap.get?_push_of_some _ e
end
end GZ

set_option Elab.async false
set_option linter.all false
set_option maxRecDepth 100000
set_option maxHeartbeats 2000000
/-! A dict comprehension with two clauses. -/
namespace D2
open PySem PySem.Spec PyProof.Rows L2
abbrev asks (ifs : List Expr) (ce : Env) : Sem Bool := forIn ifs true fun c q => if q = true then do let ok ← isTrue c ce (eval c ce); pure (ForInStep.yield ok) else pure (ForInStep.yield q)
abbrev dx (kx vx t0 i0 : Expr) (f0 : List Expr) (t1 i1 : Expr) (f1 : List Expr) (sc : Scope) (pos : Pos) : Expr := .DictComp kx vx [⟨t0, i0, f0, 0⟩, ⟨t1, i1, f1, 0⟩] sc pos
section
variable {prog : Program} {w : World} {Z : Around} {R : Result → Shared → Prop} {s : Shared} {kx vx t0 i0 t1 i1 : Expr} {f0 f1 : List Expr} {sc : Scope} {pos : Pos} {it acc : Value} {D : Addr} {ce : Env}
theorem turn_out : compTurn (dx kx vx t0 i0 f0 t1 i1 f1 sc pos) 0 it acc ce = (do
    standAt i0.pos
    match ← pyNext it with
    | none => pure (.done .next)
    | some v =>
      letOwnedTupleGo t0 it v; assign t0 ce v; let mut ok := true
      for c in f0 do
        if ok then ok ← isTrue c ce (eval c ce)
      if ok then
        let x ← eval i1 ce; standAt i1.pos; let x ← foldedSetIterable i1 ce x
        let _ ← runOwn (.compStart (dx kx vx t0 i0 f0 t1 i1 f1 sc pos) 1 (← holding [x] (pyIter x)) acc ce) ce
      again (.compLoop (dx kx vx t0 i0 f0 t1 i1 f1 sc pos) 0 it acc ce)) := by rfl
theorem turn_in : compTurn (dx kx vx t0 i0 f0 t1 i1 f1 sc pos) 1 it (.ref D) ce = (do
    standAt i1.pos
    match ← pyNext it with
    | none => pure (.done .next)
    | some v =>
      letOwnedTupleGo t1 it v; assign t1 ce v; let mut ok := true
      for c in f1 do
        if ok then ok ← isTrue c ce (eval c ce)
      if ok then
        (do let kv ← eval kx ce; let vv ← holding [kv] (eval vx ce); standAt { kx.pos with endLine := vx.pos.endLine, endCol := vx.pos.endCol }; holding [kv, vv] (dictSet D kv vv))
      again (.compLoop (dx kx vx t0 i0 f0 t1 i1 f1 sc pos) 1 it (.ref D) ce)) := by rfl
abbrev no : Value → Shared → Prop := fun _ _ => False
theorem loop_out (hs : ∀ x, foldedSetIterable i1 ce x = pure x) (I : Nat → Shared → Prop)
    (turn : ∀ n s, I n s → wpAny (model prog w) Z (pyNext it) (fun r s1 => match r with
      | none => R (.ok .next) s1
      | some v => wpAny (model prog w) Z (letOwnedTupleGo t0 it v) (fun _ s2 => wpAny (model prog w) Z (assign t0 ce v) (fun _ s3 => wpAny (model prog w) Z (asks f0 ce) (fun ok s4 => if ok = true then wpAny (model prog w) Z (eval i1 ce) (fun x s5 => wpAny (model prog w) Z (pyIter x) (fun it1 s6 =>
          codeAny (model prog w) Z (.compStart (dx kx vx t0 i0 f0 t1 i1 f1 sc pos) 1 it1 acc ce) (fun r s' => match r with | .ok _ => ∃ m, m < n ∧ I m s' | .error _ => False) s6) no s5) no s4 else ∃ m, m < n ∧ I m s4) no s3) no s2) no s1) no s)
    (n : Nat) (h : I n s) : codeAny (model prog w) Z (.compLoop (dx kx vx t0 i0 f0 t1 i1 f1 sc pos) 0 it acc ce) R s := by
  refine codeAny_loop rfl I (fun n s hI => ?_) n h
  show wpAny _ Z ((compTurn (dx kx vx t0 i0 f0 t1 i1 f1 sc pos) 0 it acc ce).onRaise (fun x => do noteFrame x ce; theTreesLotGoes x)) _ _ s
  refine wpAny_noted ?_
  rw [turn_out]
  refine wpAny_bind (wpAny_standAt (wpAny_bind (thnF (turn n s hI) fun r s1 q1 => ?_)))
  cases r with
  | none => exact wpAny_pure q1
  | some v =>
    refine wpAny_bind (thnF q1 fun _ s2 q2 => wpAny_bind (thnF q2 fun _ s3 q3 => wpAny_bind (thnF q3 fun ok s4 q4 => ?_)))
    cases ok with
    | false => exact wpAny_pure ⟨rfl, q4⟩
    | true =>
      refine wpAny_bind (thnF q4 fun x s5 q5 => wpAny_bind (wpAny_standAt (wpAny_bind (wpAny_of_eq (hs x) (wpAny_bind (wpAny_holding (thnF q5 fun it1 s6 q6 => wpAny_bind (wpAny_runOwn ?_))))))))
      rw [Around.mark_none]
      refine codeAny_mono q6 fun r s' hr => ?_
      cases r with
      | ok f => first | exact wpAny_pure ⟨rfl, hr⟩ | exact wpAny_bind (wpAny_pure (wpAny_pure ⟨rfl, hr⟩))
      | error e => exact hr.elim
theorem loop_in (I : Nat → Shared → Prop)
    (turn : ∀ n s, I n s → wpAny (model prog w) Z (pyNext it) (fun r s1 => match r with
      | none => R (.ok .next) s1
      | some v => wpAny (model prog w) Z (letOwnedTupleGo t1 it v) (fun _ s2 => wpAny (model prog w) Z (assign t1 ce v) (fun _ s3 => wpAny (model prog w) Z (asks f1 ce) (fun ok s4 => if ok = true then wpAny (model prog w) Z (eval kx ce) (fun kv s5 => wpAny (model prog w) Z (eval vx ce) (fun vv s6 =>
          wpAny (model prog w) Z (dictSet D kv vv) (fun _ s7 => ∃ m, m < n ∧ I m s7) no s6) no s5) no s4 else ∃ m, m < n ∧ I m s4) no s3) no s2) no s1) no s)
    (n : Nat) (h : I n s) : codeAny (model prog w) Z (.compLoop (dx kx vx t0 i0 f0 t1 i1 f1 sc pos) 1 it (.ref D) ce) R s := by
  refine codeAny_loop rfl I (fun n s hI => ?_) n h
  show wpAny _ Z ((compTurn (dx kx vx t0 i0 f0 t1 i1 f1 sc pos) 1 it (.ref D) ce).onRaise (fun x => do noteFrame x ce; theTreesLotGoes x)) _ _ s
  refine wpAny_noted ?_
  rw [turn_in]
  refine wpAny_bind (wpAny_standAt (wpAny_bind (thnF (turn n s hI) fun r s1 q1 => ?_)))
  cases r with
  | none => exact wpAny_pure q1
  | some v =>
    refine wpAny_bind (thnF q1 fun _ s2 q2 => wpAny_bind (thnF q2 fun _ s3 q3 => wpAny_bind (thnF q3 fun ok s4 q4 => ?_)))
    cases ok with
    | false => exact wpAny_pure ⟨rfl, q4⟩
    | true => exact wpAny_bind (wpAny_bind (thnF q4 fun kv s5 q5 => wpAny_bind (wpAny_holding (thnF q5 fun vv s6 q6 => wpAny_bind (wpAny_standAt (wpAny_holding (thnF q6 fun _ s7 q7 => wpAny_pure ⟨rfl, q7⟩)))))))
theorem start_in (h0 : codeAny (model prog w) Z (.compLoop (dx kx vx t0 i0 f0 t1 i1 f1 sc pos) 1 it acc ce) R s)
    (h : wpAny (model prog w) Z (pyIter it) (fun it' s' => codeAny (model prog w) Z (.compLoop (dx kx vx t0 i0 f0 t1 i1 f1 sc pos) 1 it' acc ce) R s') no s) : codeAny (model prog w) Z (.compStart (dx kx vx t0 i0 f0 t1 i1 f1 sc pos) 1 it acc ce) R s := by
  refine codeAny_of_tree ?_
  show wpAny _ _ ((compStart (dx kx vx t0 i0 f0 t1 i1 f1 sc pos) 1 it acc ce).onRaise (fun x => do noteFrame x ce; standAt theWindowsPlace)) _ _ s
  refine wpAny_notedAt ?_
  unfold compStart
  show wpAny _ _ (ask >>= _) _ _ s
  refine wpAny_bind (wpAny_askSetting (wpAny_ite ?_))
  split
  · first | exact wpAny_bind (wpAny_pure (wpAny_pure (And.intro rfl h0))) | exact wpAny_pure (And.intro rfl h0)
  · refine wpAny_bind (wpAny_rule ?_)
    show wpAny _ _ (standAt i1.pos >>= _) _ _ s
    exact wpAny_bind (wpAny_standAt (wpAny_bind (thnF h fun it' s' q => wpAny_pure (And.intro rfl q))))
end
end D2

set_option Elab.async false
set_option linter.all false
set_option maxRecDepth 100000
set_option maxHeartbeats 2000000
/-! A dict comprehension with two clauses: the rule. -/
namespace D2
open PySem PySem.Spec PyProof.Rows L2
/-- the inner loop; Nx: what it is to reach -/
def Inner (wi1 : TI) (g1 : TG) (tt1 : TT) (tk tv : TE) (vs1 : List Nat) (D : Addr) (Nx : Hp → Prop) : L2.St → Hp → Prop := fun σ2 H3 => wi1 σ2 H3 fun J1 H4 => ∃ W1 : Nat → Nat → Hp → Prop, (∃ m, W1 0 m H4) ∧ ∀ j k H, W1 j k H →
  (J1.stop j H ∧ Nx H) ∨ (J1.go j H ∧ ∃ Nx1 : Hp → Prop, (∀ H', Nx1 H' → ∃ k', k' < k ∧ W1 (j + 1) k' H') ∧ ∀ x H', J1.yld j H x H' → g1 x (wipe σ2 vs1) H' fun σ3 H5 => wipe σ3 vs1 = wipe σ2 vs1 ∧ tt1 σ3 H5 fun b H6 =>
    if b = true then tk σ3 H6 fun y H7 => tv σ3 H7 fun z H8 => ∃ kvs k, y = kV k ∧ H8 D = some (.dK kvs) ∧ kvs.length < sizeLine ∧ Nx1 (upd H8 D (.dK (putK kvs k z))) else Nx1 H6)
/-- {k: v for tg in iter if .. for tg1 in iter1 if ..}: D the new dict; vs: the block's names, vs1: those of the second target -/
def tDc2 (wi : TI) (g : TG) (tt : TT) (wi1 : TI) (g1 : TG) (tt1 : TT) (tk tv : TE) (vs vs1 : List Nat) : TE := fun σ H Q => wi σ H fun J H1 => ∀ D, H1 D = none → ∃ W : Nat → Nat → Hp → Prop, (∃ m, W 0 m (upd H1 D (.dK []))) ∧ ∀ i m H, W i m H →
  (J.stop i H ∧ Q (.ref D) H) ∨ (J.go i H ∧ ∃ Nx : Hp → Prop, (∀ H', Nx H' → ∃ m', m' < m ∧ W (i + 1) m' H') ∧ ∀ x H', J.yld i H x H' → g x (wipe σ vs) H' fun σ2 H2 => wipe σ2 vs = wipe σ vs ∧ tt σ2 H2 fun b H3 => if b = true then Inner wi1 g1 tt1 tk tv vs1 D Nx σ2 H3 else Nx H3)
/-- for every block of the expression -/
abbrev InB (X : Cx) (sc : Scope) (F : Cx → Prop) : Prop := ∀ (s : Shared) (H : Hp) (C : Addr) (cl : List (Str × Addr)) (fp : List Addr), F (X.blk s H sc (compEnvC sc cl C X.env) fp)
section
variable {X : Cx} {kx vx tg iter tg1 iter1 : Expr} {ifs ifs1 : List Expr} {sc : Scope} {own : List (Str × Nat)} {vs1 : List Nat} {pos : Pos} {wi wi1 : TI} {g g1 : TG} {tt tt1 : TT} {tk tv : TE}
theorem pe_dc2 (hc : X.calm = true) (hN : X.N.Nodup) (hi : PI X tg iter wi) (ok : BlkOk X.N X.env.scope sc own) (hv : ∀ i ∈ vs1, i ∈ own.map (·.2)) (hg : InB X sc fun B => PG B tg g) (ht : InB X sc fun B => PTs B ifs tt) (hi1 : InB X sc fun B => PI B tg1 iter1 wi1) (hg1 : InB X sc fun B => PG B tg1 g1)
    (ht1 : InB X sc fun B => PTs B ifs1 tt1) (hk : InB X sc fun B => PE B kx tk) (he : InB X sc fun B => PE B vx tv) (hs : ∀ x, foldedSetIterable iter X.env x = pure x := by intro _; rfl) (hs1 : ∀ env x, foldedSetIterable iter1 env x = pure x := by intro _ _; rfl) :
    PE X (dx kx vx tg iter ifs tg1 iter1 ifs1 sc pos) (tDc2 wi g tt wi1 g1 tt1 tk tv (own.map (·.2)) vs1) := by
  refine ⟨fun pins s σ H Q I h => ?_⟩
  rw [arm_eval_DictComp]
  have hfree : ∀ y ∈ sc.names, y.2 = .free → ∃ c, X.env.cells.lookup y.1 = some c := fun y hy e => (ok.free y hy e).elim (fun k => I.ok.has _ (.inl k)) fun k => I.ok.has _ (.inr k)
  refine wpAny_comprehension_free (use := none) rfl hs (closure_ok hfree) ok.kind (fun y hy e => by rw [ok.uniq y hy, e]) (thn (hi.run pins s σ H _ I h) fun xv s1 hx => thn hx fun itv s2 h2 => ?_)
  obtain ⟨it, fp, tn, J, H2, rfl, I2, T, st2, f2, q⟩ := h2
  refine wpAny_newObj_type (newEnv_comp ?_)
  generalize hD : s2.heap.objs.size = D
  obtain ⟨W, ⟨m0, w0⟩, turn⟩ := q D (I2.hok.fresh (Nat.le_of_eq hD))
  generalize hs3 : ({ s2 with heap := s2.heap.push { cls := .type "dict", data := .dict #[] } } : Shared) = s3
  have h3 : s3.heap = s2.heap.push { cls := .type "dict", data := .dict #[] } := by rw [← hs3]
  have I3 : Inv X pins σ (upd H2 D (.dK [])) s3 := by
    rw [← hs3]
    refine I2.laid (t' := s2.toks) (fun b o e => Heap.get?_push_of_some _ e) (Nat.le_of_eq hD) (by rw [← hD]; exact dk_empty s2.heap I2.big)
  have sz : ∀ b ∈ fp, b < s2.heap.objs.size := fun b hb => let ⟨o, e, _⟩ := T.obj _ _ st2 b hb; Heap.lt_size e
  have f3 : ∀ b ∈ fp, FpOk X pins (upd H2 D (.dK [])) b ∧ b < s3.heap.objs.size := fun b hb => by
    refine ⟨⟨?_, (f2 b hb).2⟩, by rw [h3, Heap.size_push]; exact Nat.lt_succ_of_lt (sz b hb)⟩
    rw [upd_ne (by rw [← hD]; exact Nat.ne_of_lt (sz b hb))]
    exact (f2 b hb).1
  have I4 := block_start I3 ok hN f3
  generalize hcl : cellsFrom (s3.heap.objs.size + 1) sc.names (cloFrom X.env.cells sc.names []) = cl at I4
  have pg := hg s3 (upd H2 D (.dK [])) s3.heap.objs.size cl fp
  have pt := ht s3 (upd H2 D (.dK [])) s3.heap.objs.size cl fp
  have pi1 := hi1 s3 (upd H2 D (.dK [])) s3.heap.objs.size cl fp
  have pg1 := hg1 s3 (upd H2 D (.dK [])) s3.heap.objs.size cl fp
  have pt1 := ht1 s3 (upd H2 D (.dK [])) s3.heap.objs.size cl fp
  have pk := hk s3 (upd H2 D (.dK [])) s3.heap.objs.size cl fp
  have pe := he s3 (upd H2 D (.dK [])) s3.heap.objs.size cl fp
  have nfp : ∀ b ∈ fp, (upd H2 D (.dK [])) b = none := fun b hb => (f3 b hb).1.1
  show codeAny _ _ (.compStart (dx kx vx tg iter ifs tg1 iter1 ifs1 sc pos) 0 (.ref it) (.ref D) (compEnvC sc cl s3.heap.objs.size X.env)) (compPost (model X.prog X.w) X.A X.xe none (fun v s' => EP X pins σ Q v s') (.ref D) s3.heap.objs.size)
    { s3 with heap := pushCells (s3.heap.push { cls := .type "dict", data := .dict #[] }) sc.names }
  generalize hce : compEnvC sc cl s3.heap.objs.size X.env = ce at I4 pg pt pi1 pg1 pt1 pk pe ⊢
  have cL : ce.locals = s3.heap.objs.size := by subst hce; rfl
  generalize hH3 : upd H2 D (.dK []) = H3 at I3 I4 pg pt pi1 pg1 pt1 pk pe w0 nfp f3
  generalize hs4 : ({ s3 with heap := pushCells (s3.heap.push { cls := .type "dict", data := .dict #[] }) sc.names } : Shared) = s4 at I4 ⊢
  have st4 : tn 0 s4.heap := T.keep _ _ _ st2 fun b _ o e => by
    rw [← hs4]
    refine pushCells_keeps _ _ _ _ (Heap.get?_push_of_some _ ?_)
    rw [h3]
    exact Heap.get?_push_of_some _ e
  generalize hB : X.blk s3 H3 sc ce fp = B at I4 pg pt pi1 pg1 pt1 pk pe
  have bA : B.A = X.A := by subst hB; rfl
  have bP : B.prog = X.prog := by subst hB; rfl
  have bw : B.w = X.w := by subst hB; rfl
  have bK : B.K = X.K := by subst hB; rfl
  have bc : B.calm = true := by rw [← hB]; exact hc
  have be : B.env = ce := by subst hB; rfl
  have bx : B.ex = fp := by subst hB; rfl
  have bn : B.pn = [] := by subst hB; rfl
  have bxe : B.xe = no := by subst hB; rfl
  have stat : ∀ {σ' : L2.St} {H' : Hp} {s' : Shared}, Inv B [] σ' H' s' → (∀ b ∈ fp, H' b = none) → ∀ b ∈ fp, FpOk B [] H' b := fun {σ' H' s'} I' hn b hb => by
    have hb2 : b ∈ B.ex := by rw [bx]; exact hb
    refine ⟨hn b hb, (I'.ok.exf b hb2).1, I'.ok.exfs b hb2, .inl hb2, fun x c e => (I'.ok.exf b hb2).2 x c e, fun p hp => ?_⟩
    rw [bn] at hp
    cases hp
  have L : codeAny (model X.prog X.w) X.A (.compLoop (dx kx vx tg iter ifs tg1 iter1 ifs1 sc pos) 0 (.ref it) (.ref D) ce) (compPost (model X.prog X.w) X.A X.xe none (fun v s' => EP X pins σ Q v s') (.ref D) s3.heap.objs.size) s4 := by
    refine loop_out (hs1 ce) (fun n s' => ∃ i H', Inv B [] (wipe σ (own.map (·.2))) H' s' ∧ tn i s'.heap ∧ (∀ b ∈ fp, H' b = none) ∧ W i n H') ?_ m0 ⟨0, H3, I4, st4, nfp, w0⟩
    rintro n s5 ⟨i, H5, I5, st5, n5, w5⟩
    rcases turn i n H5 w5 with ⟨stop, qq⟩ | ⟨go, Nx, hNx, step⟩
    · have td := T.done B bP bw bK bc i [] s5 _ H5 no I5 (stat I5 n5) st5 stop
      rw [bA] at td
      refine thnF td fun r s6 ⟨hr, I6⟩ => ?_
      subst hr
      subst hB
      have I7 : Inv X pins σ H5 s6 := I3.call' (ch := fp) I6.os I6.base I6.hok I6.bare fun b hb => ⟨(f3 b hb).1.2.2.2.1, (f3 b hb).1.2.1, (f3 b hb).1.2.2.2.2.1, (f3 b hb).1.2.2.2.2.2⟩
      have nC : H5 s3.heap.objs.size = none := by
        rw [← cL]
        exact I6.free
      obtain ⟨m, hn, _⟩ := I6.loc
      refine ⟨m, by rw [← cL]; exact hn, fun h'' sb => ?_⟩
      obtain ⟨c0, c1, c2, c3, c4, c5⟩ := I3.fpOk (b := s3.heap.objs.size) (Nat.le_refl _) nC
      exact ⟨.ref D, H5, I7.turned (t' := s6.toks) (fun b o hb e => (sb.2 b hb).trans e) c0 c1 c3 c4 c5, rfl, qq⟩
    · have ti := T.item B bP bw bK bc i [] s5 _ H5 no I5 (stat I5 n5) st5 go
      rw [bA] at ti
      refine thnF ti fun r s6 ⟨u, hr, h6⟩ => ?_
      subst hr
      refine thnF h6 fun _ s7 ⟨x, H7, I7, r7, y7, st7, n7⟩ => ?_
      have eg := pg.run _ s7 _ H7 x u _ (I7.pinned (stat I7 n7) (T.obj _ _ st7)) r7 (step x H7 y7)
      rw [bA, bP, bw, be, bxe] at eg
      refine thnF eg fun _ s8 ⟨σ8, H8, I8, hw8, q8⟩ => ?_
      have et := pt.run _ s8 σ8 H8 _ I8 q8
      rw [bA, bP, bw, be, bxe] at et
      refine thnF et fun b s9 ⟨H9, I9, q9⟩ => ?_
      have fin : ∀ {σ9 : L2.St} {s' : Shared} {H' : Hp}, Inv B ([] ++ pinsAt fp s7.heap) σ9 H' s' → (wipe σ (own.map (·.2))).length = σ9.length → (∀ (j : Nat) v, (wipe σ (own.map (·.2)))[j]? = some (some v) → σ9[j]? = some (some v)) → Nx H' →
          ∃ m, m < n ∧ ∃ i H', Inv B [] (wipe σ (own.map (·.2))) H' s' ∧ tn i s'.heap ∧ (∀ b ∈ fp, H' b = none) ∧ W i m H' := fun {σ9 s' H'} I' hl hk nx => by
        obtain ⟨m2, hm, w2⟩ := hNx H' nx
        have pin : ∀ b ∈ fp, ∀ o, s7.heap.get? b = some o → s'.heap.get? b = some o ∧ H' b = none := fun b hb o e =>
          let z := I'.pin (b, o) (List.mem_append_right _ (List.mem_append_right _ (mem_pinsAt hb e)))
          ⟨z.1, z.2.1⟩
        refine ⟨m2, hm, i + 1, H', (I'.unpinned (pins := [])).weak hl hk, T.keep _ _ _ st7 fun b hb o e => (pin b hb o e).1, fun b hb => ?_, w2⟩
        obtain ⟨o, e, _⟩ := T.obj _ _ st7 b hb
        exact (pin b hb o e).2
      have hl8 : (wipe σ (own.map (·.2))).length = σ8.length := by rw [← hw8, wipe_length]
      have hk8 : ∀ (j : Nat) v, (wipe σ (own.map (·.2)))[j]? = some (some v) → σ8[j]? = some (some v) ∧ (wipe σ8 vs1)[j]? = some (some v) := fun j v e => by
        rw [← hw8] at e
        obtain ⟨e1, e2⟩ := wipe_some e
        exact ⟨e1, by rw [wipe_out fun z => e2 (hv j z)]; exact e1⟩
      cases b with
      | false =>
        simp only [Bool.false_eq_true, if_false] at q9 ⊢
        exact fin I9 hl8 (fun j v e => (hk8 j v e).1) q9
      | true =>
        simp only [if_true] at q9 ⊢
        have ei := pi1.run _ s9 σ8 H9 _ I9 q9
        rw [bA, bP, bw, be, bxe] at ei
        refine thnF ei fun xv s10 hx => thnF hx fun itv s11 h11 => ?_
        obtain ⟨it1, fp1, tn1, J1, H11, rfl, I11, T1, st11, f11, W1, ⟨m1, w1⟩, turn1⟩ := h11
        rw [bP, bw, bK] at T1
        have stat1 : ∀ {H' : Hp}, (∀ b ∈ fp1, H' b = none) → ∀ b ∈ fp1, FpOk B ([] ++ pinsAt fp s7.heap) H' b := fun hn b hb => ⟨hn b hb, (f11 b hb).2⟩
        have L1 : codeAny (model X.prog X.w) X.A (.compLoop (dx kx vx tg iter ifs tg1 iter1 ifs1 sc pos) 1 (.ref it1) (.ref D) ce)
            (fun r s' => match r with | .ok _ => ∃ m, m < n ∧ ∃ i H', Inv B [] (wipe σ (own.map (·.2))) H' s' ∧ tn i s'.heap ∧ (∀ b ∈ fp, H' b = none) ∧ W i m H' | .error _ => False) s11 := by
          refine loop_in (fun k s' => ∃ j H', Inv B ([] ++ pinsAt fp s7.heap) (wipe σ8 vs1) H' s' ∧ tn1 j s'.heap ∧ (∀ b ∈ fp1, H' b = none) ∧ W1 j k H') ?_ m1 ⟨0, H11, I11.weak (wipe_length _ _) (fun j v e => (wipe_some e).1), st11, fun b hb => (f11 b hb).1, w1⟩
          rintro k s12 ⟨j, H12, I12, st12, n12, w12⟩
          rcases turn1 j k H12 w12 with ⟨stop1, nx1⟩ | ⟨go1, Nx1, hNx1, step1⟩
          · have td := T1.done B bP bw bK bc j _ s12 (wipe σ8 vs1) H12 no I12 (stat1 n12) st12 stop1
            rw [bA] at td
            refine thnF td fun r s13 ⟨hr, I13⟩ => ?_
            subst hr
            exact fin I13 (hl8.trans (wipe_length σ8 vs1).symm) (fun j v e => (hk8 j v e).2) nx1
          · have ti := T1.item B bP bw bK bc j _ s12 (wipe σ8 vs1) H12 no I12 (stat1 n12) st12 go1
            rw [bA] at ti
            refine thnF ti fun r s13 ⟨u1, hr, h13⟩ => ?_
            subst hr
            refine thnF h13 fun _ s14 ⟨x1, H14, I14, r14, y14, st14, n14⟩ => ?_
            have eg := pg1.run _ s14 (wipe σ8 vs1) H14 x1 u1 _ (I14.pinned (stat1 n14) (T1.obj _ _ st14)) r14 (step1 x1 H14 y14)
            rw [bA, bP, bw, be, bxe] at eg
            refine thnF eg fun _ s15 ⟨σ15, H15, I15, hw15, q15⟩ => ?_
            have et := pt1.run _ s15 σ15 H15 _ I15 q15
            rw [bA, bP, bw, be, bxe] at et
            refine thnF et fun b1 s16 ⟨H16, I16, q16⟩ => ?_
            have fin1 : ∀ {s' : Shared} {H' : Hp}, Inv B (([] ++ pinsAt fp s7.heap) ++ pinsAt fp1 s14.heap) σ15 H' s' → Nx1 H' → ∃ m, m < k ∧ ∃ j H', Inv B ([] ++ pinsAt fp s7.heap) (wipe σ8 vs1) H' s' ∧ tn1 j s'.heap ∧ (∀ b ∈ fp1, H' b = none) ∧ W1 j m H' := fun {s' H'} I' nx => by
              obtain ⟨m2, hm, w2⟩ := hNx1 H' nx
              have pin : ∀ b ∈ fp1, ∀ o, s14.heap.get? b = some o → s'.heap.get? b = some o ∧ H' b = none := fun b hb o e =>
                let z := I'.pin (b, o) (List.mem_append_right _ (List.mem_append_right _ (mem_pinsAt hb e)))
                ⟨z.1, z.2.1⟩
              refine ⟨m2, hm, j + 1, H', I'.unpinned.weak (by rw [← hw15, wipe_length]) (fun j v e => (wipe_some (by rw [hw15]; exact e)).1), T1.keep _ _ _ st14 fun b hb o e => (pin b hb o e).1, fun b hb => ?_, w2⟩
              obtain ⟨o, e, _⟩ := T1.obj _ _ st14 b hb
              exact (pin b hb o e).2
            cases b1 with
            | false =>
              simp only [Bool.false_eq_true, if_false] at q16 ⊢
              exact fin1 I16 q16
            | true =>
              simp only [if_true] at q16 ⊢
              have ek := pk.run _ s16 σ15 H16 _ I16 q16
              rw [bA, bP, bw, be, bxe] at ek
              refine thnF ek fun z s17 ⟨yk, H17, I17, r17, q17⟩ => ?_
              have ev := pe.run _ s17 σ15 H17 _ I17 q17
              rw [bA, bP, bw, be, bxe] at ev
              refine thnF ev fun z2 s18 ⟨yv, H18, I18, r18, kvs, k2, ey, hD18, hz18, nx⟩ => ?_
              subst ey
              have ed := d_dictSet (E := no) (Q := fun _ s' => ∃ m, m < k ∧ ∃ j H', Inv B ([] ++ pinsAt fp s7.heap) (wipe σ8 vs1) H' s' ∧ tn1 j s'.heap ∧ (∀ b ∈ fp1, H' b = none) ∧ W1 j m H') I18 hD18 hz18 r17 r18 fun s19 I19 => fin1 I19 nx
              rw [bA, bP, bw] at ed
              exact ed
        exact start_in L1 (T1.self X.A 0 _ _ _ st11 L1)
  exact codeAny_compStart_dict L (T.self X.A 0 _ _ _ st4 L)
end
end D2

set_option Elab.async false
set_option linter.all false
set_option maxRecDepth 100000
set_option maxHeartbeats 2000000
/-! A thing that is written no more; tuple(d) of a dict. -/
namespace D2
open PySem PySem.Spec PyProof.Rows L2
def tFrz (t : TE) : TE := fun σ H Q => t σ H fun v H1 => ∃ d u, v = .ref d ∧ H1 d = some u ∧ Mut (some u) ∧ ∀ od, Q v (upd H1 d (.frz od u))
/-- from here on the value is only read -/
theorem pe_frz {X : Cx} {e : Expr} {t : TE} (h : PE X e t) : PE X e (tFrz t) := by
  refine ⟨fun pins s σ H Q I hq => thn (h.run pins s σ H _ I hq) fun v s1 ⟨x, H1, I1, r, d, u, ex, hd, mu, q⟩ => ?_⟩
  obtain ⟨od, I2⟩ := I1.lock hd mu
  exact ⟨x, _, I2, r, q od⟩
section
variable {X : Cx}
def rTupD : List V → Hp → VK → Prop := fun xs H Q => ∃ p kvs, xs = [.ref p] ∧ Rd H p (.dK kvs) ∧ ∀ q, H q = none → Q (.ref q) (upd H q (.tup (kvs.map fun kv => kV kv.1)))
theorem call_tuple_dK (hc : X.calm = true) : CallR X (.type "tuple") rTupD := by
  intro pins s σ H xs us Q I r h
  obtain ⟨a, kvs, rfl, hd, q⟩ := h
  obtain ⟨u, rfl, rx⟩ := vals1 r
  cases rx
  obtain ⟨z, lo, vs, rel, dd⟩ := dk_rd I.hok hd
  obtain ⟨ep, hat⟩ := dd.dictAt
  have hl : kvs.length = vs.length := Paired.length rel
  have hT : s.TypeIs (.ref a) "dict" := dd.typeIs
  refine callType_codes (Q₁ := fun obj s2 => s2.TypeIs obj "tuple" ∧ EP X pins σ Q obj s2) F.called_tuple (F.typeCall_tuple_1 _) F.entry_object_init ?_ fun obj s2 h2 => ?_
  · refine codeAny_of_tree ?_
    show wpAny _ X.A.in1.in1 (do checkBuiltinCall "tuple.__new__" ⟨[.type "tuple", .ref a], []⟩; again (.builtin "tuple.__new__" ⟨[.type "tuple", .ref a], []⟩)) _ _ s
    refine wpAny_bind (wpAny_of_eq (F.newCall_tuple_1 _) (wpAny_pure ⟨plainId_quiet F.plain_tuple_new _, codeAny_builtin F.entry_tuple_new ?_⟩))
    rw [Around.under_plainId F.plain_tuple_new _]
    have f1 := sub_tuple_self
    have f2 := init_tuple_lookup
    have f3 := madeHere_tuple
    have hn : vs.length ≤ sizeLine := by rw [← hl]; exact z
    have hh : X.A.in1.in1.handled = none := I.ok.hd hc
    wp_walk using wpAny_typeOf hT, PySem.W.kdu_collect (PySem.W.kdl_dict (knd := mixKind X.prog X.w) (kvs := vs) (ep := ep) lo) hh hat hn
    intro h' tk acc hk hacc
    show wpAny _ _ (Builtin.Tuple.tupleExact acc.toList.toArray >>= fun v => ret v) _ _ _
    unfold Builtin.Tuple.tupleExact
    rw [Array.toArray_toList]
    refine wpAny_bind (wpAny_newObj_type (wpAny_pure ?_) (by show acc.size ≤ sizeLine; rw [hacc.1]; exact hn))
    have I1 : Inv X pins σ H { s with heap := h', toks := tk } := I.kept hk
    have at_ : (h'.push { cls := .type "tuple", data := .seq acc }).get? h'.objs.size = some { cls := .type "tuple", data := .seq acc } := Heap.get?_push_size _ rfl
    refine ⟨⟨_, at_, rfl⟩, .ref h'.objs.size, upd H h'.objs.size (.tup (kvs.map fun kv => kV kv.1)), I1.laid (t' := tk) (fun b o e => Heap.get?_push_of_some _ e) (Nat.le_refl _) (show ObjOk X.prog X.w _ _ _ (.tup (kvs.map fun kv => kV kv.1)) from ⟨?_, acc.toList, ?_, ?_⟩), rfl, q _ (I1.hok.fresh (Nat.le_refl _))⟩
    · rw [List.length_map]
      exact z
    · have el : acc.toList.length = acc.size := by simp
      refine vals_of_at (by rw [List.length_map, el, hacc.1, hl]) fun j x w h1 h2 => ?_
      obtain ⟨k, y, hky, hi⟩ := hacc.2 j w (by rw [← Array.getElem?_toList]; exact h2)
      rw [show (kvs.map fun kv => kV kv.1) = (kvs.map (·.1)).map kV by rw [List.map_map] <;> rfl, List.getElem?_map, KV.keys rel, List.getElem?_map, hky] at h1
      cases h1
      exact keyIs_rel hi
    · rw [Array.toArray_toList]
      exact ⟨_, at_, rfl, _, rfl⟩
  · exact ⟨h2.1, F.args_object_init_2 obj _, object_init_meets F.called_tuple.init.lookup F.called_tuple.made (by decide) _ _ X.A.in1 _ s2 ⟨h2.1, rfl, h2.2⟩⟩
end
end D2

set_option Elab.async false
set_option linter.all false
set_option maxRecDepth 100000
set_option maxHeartbeats 2000000
/-! A dict that may be frozen: its truth, its length. -/
namespace D2
open PySem PySem.Spec PyProof.Rows L2
section
variable {X : Cx}
def rTruD : V → Hp → (Bool → Hp → Prop) → Prop := fun x H Q => ∃ p kvs, x = .ref p ∧ Rd H p (.dK kvs) ∧ Q (!kvs.isEmpty) H
theorem tru_rd : TruR X rTruD := by
  intro pins s σ H x v Q I rx h
  obtain ⟨p, kvs, rfl, hd, q⟩ := h
  cases rx
  obtain ⟨hz, hS, vs, r, m⟩ := dk_rd I.hok hd
  have e1 : kvs.length = vs.length := Paired.length r
  have e2 := line63
  exact wpAny_truthy_dict hS m (by omega) ⟨H, I.tok _, by rw [isEmpty_kv r]; exact q⟩
def rLenD : List V → Hp → VK → Prop := fun xs H Q => ∃ a kvs, xs = [V.ref a] ∧ Rd H a (.dK kvs) ∧ Q (.int kvs.length) H
theorem call_lenR : CallR X (.builtin "len") rLenD := by
  intro pins s σ H xs us Q I r h
  obtain ⟨a, kvs, rfl, ha, q⟩ := h
  obtain ⟨u, rfl, ru⟩ := vals1 r
  cases ru
  exact d_len I ha fun t s2 I2 => ⟨.int kvs.length, H, I2, ⟨t, rfl⟩, q⟩
end
end D2

set_option Elab.async false
set_option linter.all false
set_option maxRecDepth 100000
set_option maxHeartbeats 2000000
/-! A dict against {}; a tuple that is known to hold no dict of its own: tuple(list), and dict(tuple of pairs). -/
namespace D2
open PySem PySem.Spec PyProof.Rows L2
section
variable {X : Cx}
def rNeE : R2 := fun x y H Q => ∃ a b ks, x = .ref a ∧ y = .ref b ∧ Rd H a (.dK ks) ∧ Rd H b (.dK []) ∧ Q (.bl (!ks.isEmpty)) H
def rEqE : R2 := fun x y H Q => ∃ a b ks, x = .ref a ∧ y = .ref b ∧ Rd H a (.dK ks) ∧ Rd H b (.dK []) ∧ Q (.bl ks.isEmpty) H
theorem nil_kv {vs : List (L2.Key × Value)} (r : KV [] vs) : vs = [] := by
  cases r
  rfl
theorem op_neE (hu : X.A.units < cLine) : OpR X (compareOp .NotEq) rNeE := by
  intro pins s σ H x y v u Q I rx ry h
  obtain ⟨a, b, ks, rfl, rfl, ea, eb, q⟩ := h
  obtain rfl : v = Value.ref a := rx
  obtain rfl : u = Value.ref b := ry
  obtain ⟨_, ya, va, ra, da⟩ := dk_rd I.hok ea
  obtain ⟨_, yb, vb, rb, db⟩ := dk_rd I.hok eb
  obtain rfl := nil_kv rb
  have el : ks.length = va.length := Paired.length ra
  refine PySem.W.keq_ne (knd := mixKind X.prog X.w) (r := true) ya yb da db hu (fun hl => ?_) (fin_bl I q ?_)
  · cases va with
    | nil => exact .nil
    | cons => cases hl
  · cases ks <;> cases va <;> simp_all
theorem op_eqE (hu : X.A.units < cLine) : OpR X (compareOp .Eq) rEqE := by
  intro pins s σ H x y v u Q I rx ry h
  obtain ⟨a, b, ks, rfl, rfl, ea, eb, q⟩ := h
  obtain rfl : v = Value.ref a := rx
  obtain rfl : u = Value.ref b := ry
  obtain ⟨_, ya, va, ra, da⟩ := dk_rd I.hok ea
  obtain ⟨_, yb, vb, rb, db⟩ := dk_rd I.hok eb
  obtain rfl := nil_kv rb
  have el : ks.length = va.length := Paired.length ra
  refine PySem.W.keq_eq (knd := mixKind X.prog X.w) (r := true) ya yb da db hu (fun hl => ?_) (fin_bl I q ?_)
  · cases va with
    | nil => exact .nil
    | cons => cases hl
  · cases ks <;> cases va <;> simp_all
/-- tuple(list): a new tuple, its object known to hold no dict -/
def rTupF (K : PySem.W.Frag) : List V → Hp → VK → Prop := fun xs H Q => ∃ p ys, xs = [.ref p] ∧ SqL K H p ys ∧ ∀ l o, H l = none → o.dict = none → Q (.ref l) (upd H l (.frz o (.tup ys)))
theorem call_tupF : CallR X (.type "tuple") (rTupF X.K) := by
  intro pins s σ H xs us Q I r h
  obtain ⟨p, ys, rfl, hq, q⟩ := h
  obtain ⟨u, rfl, rx⟩ := vals1 r
  cases rx
  obtain ⟨its, r', pl, hz⟩ := I.list hq
  have hlen := r'.length
  refine call_tuple_list pl.isList (fun h' kp => ?_) (by simp only [List.size_toArray] <;> omega)
  have I1 : Inv X pins σ H { s with heap := h' } := I.kept (t' := s.toks) kp
  have I2 : Inv X pins σ (upd H h'.objs.size (.frz { cls := .type "tuple", data := .seq its.toArray } (.tup ys))) { s with heap := h'.push { cls := .type "tuple", data := .seq its.toArray } } :=
    I1.laid (t' := s.toks) (fun b o e => Heap.get?_push_of_some _ e) (Nat.le_refl _) (show ObjOk X.prog X.w _ _ _ (.frz _ (.tup ys)) from ⟨Heap.get?_push_size _ rfl, hz, its, r', IsTup.new _ _⟩)
  exact ⟨.ref h'.objs.size, _, I2, rfl, q _ _ (I1.hok.fresh (Nat.le_refl _)) rfl⟩
end
theorem tuple_keys_none : typeLookup (.type "tuple") "keys" = pure none := am_miss_of_fast (by first | decide +kernel | rfl)
section
variable {prog : Program} {w : World} {A : Around} {E : Value → Shared → Prop}
theorem miss_tuple {s : Shared} {a : Addr} {o : Obj} {xs : Array Value} {k : Nat} {Q : Option Value → Shared → Prop} (hx : s.heap.get? a = some o) (hc : o.cls = .type "tuple") (hdat : o.data = .seq xs k) (hd : o.dict = none) (hA : A.handled = none)
    (h : ∀ h' tk, (∀ b ob, s.heap.get? b = some ob → h'.get? b = some ob) → Q none { s with heap := h', toks := tk }) : wpAny (model prog w) A (getAttr? (.ref a) "keys") Q E s := by
  obtain ⟨c, dct, dat, sl⟩ := o
  simp only at hc hdat hd
  subst hc hdat hd
  obtain ⟨hp, g, d, tk, os⟩ := s
  have hT : ∀ tk', (⟨hp, g, d, tk', os⟩ : Shared).TypeIs (.ref a) "tuple" := fun _ => ⟨_, hx, rfl⟩
  have hmiss := tuple_keys_none
  have hname : (["__module__", "__name__", "__qualname__", "__doc__", "__annotations__"] : List Str).contains "keys" = false := by decide +kernel
  have hsz : ("keys" : Str).length + 100 ≤ sizeLine := by first | size_fits | decide +kernel
  have f1 := sub_AttributeError
  have f3 := PySem.F.slot_tuple_getattribute.lookup
  have f4 := PySem.F.slot_tuple_getattribute.bind (.ref a)
  have f5 := am_tuple_getattr_none
  unfold getAttr? getAttrBy? getAttrBy
  repeat (any_goals (first | assumption | exact hT _ | ((with_reducible show wpAny _ _ (call (Value.builtin "tuple.__getattribute__") _ _) _ _ _); refine call_meets PySem.F.slot_tuple_getattribute (hT _) am_entry_tuple_getattribute (PySem.F.args_tuple_getattribute_2 _ _) (meets_getattribute_miss_tuple a xs k sl "keys" _ hmiss hname hsz) ⟨hx, hA, fun h' tk' e hx' => ?_⟩) | wp_step))
  obtain ⟨t', u', he⟩ := hx'.there
  show wpAny _ _ (getattributeRaised _ _ _ _ _ _ _) _ _ _
  unfold getattributeRaised
  repeat (any_goals (first | assumption | wp_step))
  all_goals first | exact h _ _ hx'.keeps | (dsimp only; repeat (any_goals (first | assumption | exact h _ _ hx'.keeps | wp_step)))
theorem updT_loop {R : Result → Shared → Prop} {S I l : Addr} {items : Array Value} {res : Value} (hh : A.handled = none) (hlI : l ≠ I) (hSI : S ≠ I) (hSl : S ≠ l) :
    ∀ (rest : List (L2.Key × Value)) (i : Nat) (acc : List (L2.Key × Value)) (ix : Int) (t : Tok) (s : Shared), items.size = i + rest.length → acc.length + rest.length ≤ sizeLine →
      (∀ (j : Nat) (q : L2.Key × Value), rest[j]? = some q → ∃ (b : Addr) (u : Value), items[i + j]? = some (.ref b) ∧ b ≠ S ∧ b ≠ I ∧ IsTup s.heap b #[u, q.2] ∧ keyIs q.1 u = true) →
      s.heap.IsTupleIter I l i → s.heap.IsTuple l items → s.heap.DictOf (mixKind prog w) S acc →
      (∀ h' tk, h'.DictOf (mixKind prog w) S (merged acc rest) → (∀ b o, b ≠ S → b ≠ I → s.heap.get? b = some o → h'.get? b = some o) → R (.ok (.ret res)) { s with heap := h', toks := tk }) →
      codeAny (model prog w) A (.builtin "dict.update.loop" ⟨[.ref S, .ref I, .int ix t, res], []⟩) R s
  | [], i, acc, ix, t, s, hsz, hln, ht, hit, hl, hm, hR => by
    refine codeAny_builtin ud_entry ?_
    rw [Around.under_plainId ud_plain _]
    show wpAny _ A.in1 (pyNext (.ref I) >>= _) _ _ s
    refine wpAny_bind (wpAny_pyNext_tuple_end (A := A.in1) hh hit hl (by first | exact Array.getElem?_eq_none (Nat.le_of_eq hsz) | (simp at hsz; simp; omega)) fun h' he => ?_)
    show wpAny _ A.in1 (Builtin.Dict.addKeywords S [] >>= _) _ _ _
    refine wpAny_bind (wpAny_pure (wpAny_pure ?_))
    exact hR h' s.toks (hm.extBut he hSI) fun b o _ hb e => he b o hb e
  | q :: rest, i, acc, ix, t, s, hsz, hln, ht, hit, hl, hm, hR => by
    obtain ⟨b, u, hb, hbS, hbI, htup, hk⟩ := ht 0 q rfl
    rw [List.length_cons] at hsz hln
    refine codeAny_builtin ud_entry ?_
    rw [Around.under_plainId ud_plain _]
    show wpAny _ A.in1 (pyNext (.ref I) >>= _) _ _ s
    refine wpAny_bind (wpAny_pyNext_tuple_item (x := .ref b) hit hl (by simpa using hb) fun h1 hit1 hs1 => ?_)
    have ht1 : IsTup h1 b #[u, q.2] := htup.extBut hs1.extBut hbI
    have hl1 : h1.IsTuple l items := IsTup.extBut hl hs1.extBut hlI
    have hm1 : h1.DictOf (mixKind prog w) S acc := hm.extBut hs1.extBut hSI
    obtain ⟨o, ho, hc, n, hd⟩ := id ht1
    show wpAny _ A.in1 (holding [Value.ref b] _ >>= _) _ _ _
    refine wpAny_bind (wpAny_holding ?_)
    refine wpAny_bind (wpAny_tryCatch ?_)
    unfold Builtin.Dict.pairItems
    refine wpAny_bind (wpAny_typeOf (T := "tuple") ⟨o, ho, hc⟩ ?_)
    rw [if_pos (by first | decide | rfl | simp)]
    refine wpAny_bind (wpAny_seqItems ho hd (wpAny_pure ?_))
    show wpAny _ A.in1 (holding [u, q.2] (dictSet S u q.2)) _ _ _
    refine wpAny_holding (wpAny_dictSet_pairs (knd := mixKind prog w) (k := q.1) hk hm1 (fun h2 hm2 hs2 => ?_) (by omega))
    refine wpAny_pure ⟨plainId_quiet ud_plain _, updT_loop (items := items) hh hlI hSI hSl rest (i + 1) (stored acc q.1 q.2) (ix + 1) 0 _ (show items.size = i + 1 + rest.length by omega) ?_ (fun j q' e => ?_) ?_ ?_ hm2 fun h' tk hd' k => ?_⟩
    · have z := stored_length_le acc q.1 q.2
      omega
    · obtain ⟨b', u', hb', hbS', hbI', htup', hk'⟩ := ht (j + 1) q' (by simpa using e)
      refine ⟨b', u', ?_, hbS', hbI', (htup'.extBut hs1.extBut hbI').extBut hs2.extBut hbS', hk'⟩
      rw [show i + 1 + j = i + (j + 1) by omega]
      exact hb'
    · exact hit1.extBut hs2.extBut (Ne.symm hSI)
    · exact IsTup.extBut hl1 hs2.extBut (Ne.symm hSl)
    · exact hR h' tk hd' fun c oc h3 h4 e => k c oc h3 h4 (hs2.extBut c oc h3 (hs1.extBut c oc h4 e))
theorem callT_dict_pairs {s : Shared} {l : Addr} {ol : Obj} {items : Array Value} {n : Nat} {prs : List (L2.Key × Value)} {Q : Value → Shared → Prop} (hh : A.handled = none) (hl : s.heap.get? l = some ol) (hc : ol.cls = .type "tuple") (hd : ol.dict = none)
    (hdat : ol.data = .seq items n) (hsz : items.size = prs.length) (hln : prs.length ≤ sizeLine)
    (ht : ∀ (j : Nat) (q : L2.Key × Value), prs[j]? = some q → ∃ (b : Addr) (u : Value), items[j]? = some (.ref b) ∧ IsTup s.heap b #[u, q.2] ∧ keyIs q.1 u = true)
    (h : ∀ h' tk, h'.DictOf (mixKind prog w) s.heap.objs.size (merged [] prs) → (∀ b o, s.heap.get? b = some o → h'.get? b = some o) → Q (.ref s.heap.objs.size) { s with heap := h', toks := tk }) :
    wpAny (model prog w) A (call (.type "dict") [.ref l]) Q E s := by
  refine callType_codes (Q₁ := fun obj s₁ => obj = .ref s.heap.objs.size ∧ s₁ = { s with heap := s.heap.push { cls := .type "dict", data := .dict #[] } }) PySem.F.kt_called_dict (PySem.F.kt_typeCall_dict_1 _) PySem.F.entry_dict_init (kt_code_dict_new _ ⟨rfl, rfl⟩) ?_
  rintro obj s₁ ⟨rfl, rfl⟩
  have hnew : (s.heap.push { cls := .type "dict", data := .dict #[] }).DictOf (mixKind prog w) s.heap.objs.size [] := Heap.DictOf.new s.heap
  have k0 : ∀ b o, s.heap.get? b = some o → (s.heap.push { cls := .type "dict", data := .dict #[] }).get? b = some o := fun b o e => Heap.get?_push_of_some _ e
  refine ⟨hnew.typeIs, PySem.F.args_dict_init_2 _ _, ?_⟩
  unfold Builtin.«dict.__init__»
  refine wpAny_bind ?_
  unfold Builtin.Dict.selfAndRest
  refine wpAny_bind (wpAny_notOrdered_dict hnew.typeIs ?_)
  show wpAny _ _ (pure (s.heap.objs.size, [Value.ref l])) _ _ _
  refine wpAny_pure ?_
  show wpAny _ _ (Builtin.Dict.updateFrom "dict.__init__" s.heap.objs.size (.ref l) [] .none) _ _ _
  unfold Builtin.Dict.updateFrom
  refine wpAny_bind (wpAny_typeOf (T := "tuple") ⟨ol, k0 _ _ hl, hc⟩ ?_)
  rw [if_pos (by first | decide | rfl | simp)]
  refine wpAny_bind (miss_tuple (k0 _ _ hl) hc hdat hd hh fun h1 tk1 hk1 => ?_)
  rw [if_pos (show (none : Option Value).isNone = true from rfl)]
  refine wpAny_bind (wpAny_rule ?_)
  have hl1 : h1.IsTuple l items := ⟨ol, hk1 _ _ (k0 _ _ hl), hc, n, hdat⟩
  have hS1 : s.heap.objs.size < h1.objs.size := by
    have e : (s.heap.push { cls := .type "dict", data := .dict #[] }).get? s.heap.objs.size = some { cls := .type "dict", data := .dict #[] } := Heap.get?_push_size _ rfl
    exact Heap.lt_size (hk1 _ _ e)
  refine wpAny_bind (wpAny_pyIter_tuple hl1 ?_)
  have k2 : ∀ b o, h1.get? b = some o → (h1.push { cls := .type "tuple_iterator", data := .fields #[.ref l, .int 0 0] }).get? b = some o := fun b o e => Heap.get?_push_of_some _ e
  have hlt : l < s.heap.objs.size := Heap.lt_size hl
  have key := updT_loop (prog := prog) (w := w) (A := A.in1) (R := wants (fun r s₂ => r = .none ∧ Q (.ref s.heap.objs.size) s₂) E) (S := s.heap.objs.size) (I := h1.objs.size) (l := l) (items := items) (res := Value.none) hh
    (Nat.ne_of_lt (Nat.lt_trans hlt hS1)) (Nat.ne_of_lt hS1) (Nat.ne_of_gt hlt) prs 0 [] 0 0
    { s with heap := h1.push { cls := .type "tuple_iterator", data := .fields #[.ref l, .int 0 0] }, toks := tk1 } (by rw [hsz, Nat.zero_add]) (by rw [List.length_nil, Nat.zero_add]; exact hln)
    (fun j q e => by
      obtain ⟨b, u, e1, e2, e3⟩ := ht j q e
      have hb : b < s.heap.objs.size := e2.lt
      exact ⟨b, u, by rw [Nat.zero_add]; exact e1, Nat.ne_of_lt hb, Nat.ne_of_lt (Nat.lt_trans hb hS1), e2.keeps fun c o z => k2 _ _ (hk1 _ _ (k0 _ _ z)), e3⟩)
    ⟨_, Heap.get?_push_size _ rfl, rfl, rfl⟩ (IsTup.keeps hl1 fun c o z => k2 _ _ z) ((hnew.at fun o e => hk1 _ _ e).at fun o e => k2 _ _ e)
    (fun h' tk hd' k => ⟨rfl, h h' tk hd' fun b o e => k b o (Nat.ne_of_lt (Heap.lt_size e)) (Nat.ne_of_lt (Nat.lt_trans (Heap.lt_size e) hS1)) (k2 _ _ (hk1 _ _ (k0 _ _ e)))⟩)
  first
    | exact wpAny_pure ⟨plainId_quiet ud_plain _, key⟩
    | exact wpAny_bind (wpAny_pure (wpAny_pure ⟨plainId_quiet ud_plain _, key⟩))
end
section
variable {X : Cx}
/-- dict(t) of a tuple of pairs that holds no dict of its own -/
def rDictT (K : PySem.W.Frag) : List V → Hp → VK → Prop := fun xs H Q => ∃ (a : Addr) (o : Obj) (ps : List Addr) (kvs : List (L2.Key × V)), xs = [.ref a] ∧ H a = some (.frz o (.tup (ps.map V.ref))) ∧ o.dict = none ∧ Paired (fun p kv => SqT K H p [kV kv.1, kv.2]) ps kvs ∧
    ∀ p, H p = none → Q (.ref p) (upd H p (.dK (mergeK [] kvs)))
theorem call_dictT (hcalm : X.calm = true) : CallR X (.type "dict") (rDictT X.K) := by
  intro pins s σ H xs us Q I r q
  obtain ⟨a, o, ps, kvs, ex, hq, hdn, hp, q⟩ := q
  subst ex
  obtain ⟨u, eu, rx⟩ := vals1 r
  subst eu
  cases rx
  obtain ⟨ho, hz, its, rv, o2, ho2, hc, n, hdat⟩ := (show ObjOk X.prog X.w H s.heap a (.frz o (.tup (ps.map V.ref))) from I.hok a _ hq)
  rw [ho] at ho2
  cases ho2
  have ei := refs_at rv
  subst ei
  rw [List.length_map] at hz
  obtain ⟨prs, rel, hl, hpr⟩ := pairs_of I hp
  refine callT_dict_pairs (prs := prs) (I.ok.hd hcalm) ho hc hdn hdat (by simp [hl]) (by rw [hl]; exact hz) (fun j q' e => ?_) fun h' tk hd' k => ?_
  · obtain ⟨b, u, e1, e2, e3⟩ := hpr j q' e
    exact ⟨b, u, by simp [e1], e2, e3⟩
  · have hm : (s.heap.objs.size == sysModules) = false := beq_eq_false_iff_ne.mpr (Nat.ne_of_gt I.big)
    have hlen : (mergeK [] kvs).length ≤ sizeLine := by
      refine Nat.le_trans (length_mergeK kvs []) ?_
      rw [List.length_nil, Nat.zero_add, rel.length, hl]
      exact hz
    exact ⟨.ref s.heap.objs.size, upd H s.heap.objs.size (.dK (mergeK [] kvs)), I.laid (t' := tk) k (Nat.le_refl _) (show ObjOk X.prog X.w _ _ _ (.dK (mergeK [] kvs)) from ⟨hlen, hm, merged [] prs, KV.merge rel .nil, hd'⟩), rfl, q _ (I.hok.fresh (Nat.le_refl _))⟩
end
end D2

set_option Elab.async false
set_option linter.all false
set_option maxRecDepth 100000
set_option maxHeartbeats 2000000
/-! Walks over frozen dicts; tuples that may be frozen. -/
namespace Wr
open PySem PySem.Spec PyProof.Rows L2
theorem Le.rdT {H H' : Hp} (e : Le H H') {a : Addr} {xs : List V} (h : Rd H a (.tup xs)) : Rd H' a (.tup xs) := by
  rcases h with h | ⟨o, h⟩
  · exact .inl (e.tup h)
  · exact .inr ⟨o, e.keep _ _ h not_frz⟩
theorem Le.frz {H H' : Hp} (e : Le H H') {a : Addr} {o : Obj} {u : HO} (h : H a = some (.frz o u)) : H' a = some (.frz o u) := e.keep _ _ h not_frz
theorem sqR {K : PySem.W.Frag} {H : Hp} {a : Addr} {xs : List V} (h : Rd H a (.tup xs)) : SqT K H a xs := .inl h
theorem rd_not_lst {K : PySem.W.Frag} {H H2 : Hp} {a : Addr} {xs ys : List V} (e : Rd H a (.tup xs)) (z : SqL K H a ys) : SqL K H2 a ys := by
  rcases z with (z | ⟨o, z⟩) | z
  · rcases e with e | ⟨o2, e⟩ <;> (rw [e] at z; cases z)
  · rcases e with e | ⟨o2, e⟩ <;> (rw [e] at z; cases z)
  · exact .inr z
/-- a for over the keys of a frozen dict -/
theorem for_keysF {d : Addr} {o : Obj} {kvs : List (L2.Key × V)} {g : TG} {tb : TS} {D : Ends} {σ : L2.St} {H : Hp} (Pv : Nat → L2.St → Hp → Prop) (h0 : Pv 0 σ H) (hl : ∀ i σ H, i ≤ kvs.length → Pv i σ H → H d = some (.frz o (.dK kvs)))
    (hs : ∀ i k v σ H, kvs[i]? = some (k, v) → Pv i σ H → g (kV k) σ H fun σ2 H2 => tb { D with nx := Pv (i + 1), ct := Pv (i + 1), bk := D.nx } σ2 H2) (hd : ∀ σ H, Pv kvs.length σ H → D.nx σ H) :
    ∃ W : Nat → Nat → L2.St → Hp → Prop, (∃ m, W 0 m σ H) ∧ ∀ i m σ H, W i m σ H →
      ((Itk d o kvs).stop i H ∧ D.nx σ H) ∨ ((Itk d o kvs).go i H ∧ ∃ N : L2.St → Hp → Prop, (∀ σ' H', N σ' H' → ∃ m', m' < m ∧ W (i + 1) m' σ' H') ∧ ∀ x H', (Itk d o kvs).yld i H x H' → g x σ H' fun σ2 H2 => tb { D with nx := N, ct := N, bk := D.nx } σ2 H2) := by
  refine ⟨fun i m σ H => m = kvs.length - i ∧ i ≤ kvs.length ∧ Pv i σ H, ⟨kvs.length, by simp, Nat.zero_le _, h0⟩, ?_⟩
  rintro i m σ H ⟨rfl, hi, p⟩
  have q := hl i σ H hi p
  by_cases hlt : i < kvs.length
  · refine .inr ⟨⟨q, hlt⟩, Pv (i + 1), fun σ' H' p' => ⟨kvs.length - (i + 1), by omega, rfl, hlt, p'⟩, fun x H' y => ?_⟩
    obtain ⟨e, k, v, hk, rfl⟩ := y
    subst e
    exact hs i k v σ _ hk p
  · have e : i = kvs.length := by omega
    subst e
    exact .inl ⟨⟨q, Nat.le_refl _⟩, hd σ H p⟩
/-- a comprehension over the keys of a frozen dict -/
theorem lc_keysF {d : Addr} {o : Obj} {kvs : List (L2.Key × V)} {g : TG} {tt : TT} {te : TE} {vs : List Nat} {σ : L2.St} {H1 : Hp} {D : Addr} {Qd : Hp → Prop} (Pv : Nat → Hp → Prop) (h0 : Pv 0 (upd H1 D (.lst []))) (hl : ∀ i H, i ≤ kvs.length → Pv i H → H d = some (.frz o (.dK kvs)))
    (hs : ∀ i k v H, kvs[i]? = some (k, v) → Pv i H → g (kV k) (wipe σ vs) H fun σ2 H2 => wipe σ2 vs = wipe σ vs ∧ tt σ2 H2 fun b H3 =>
      if b = true then te σ2 H3 fun y H4 => ∃ acc, H4 D = some (.lst acc) ∧ acc.length < sizeLine ∧ Pv (i + 1) (upd H4 D (.lst (acc ++ [y]))) else Pv (i + 1) H3) (hd : ∀ H, Pv kvs.length H → Qd H) :
    ∃ W : Nat → Nat → Hp → Prop, (∃ m, W 0 m (upd H1 D (.lst []))) ∧ ∀ i m H, W i m H →
      ((Itk d o kvs).stop i H ∧ Qd H) ∨ ((Itk d o kvs).go i H ∧ ∃ Nx : Hp → Prop, (∀ H', Nx H' → ∃ m', m' < m ∧ W (i + 1) m' H') ∧ ∀ x H', (Itk d o kvs).yld i H x H' → g x (wipe σ vs) H' fun σ2 H2 => wipe σ2 vs = wipe σ vs ∧ tt σ2 H2 fun b H3 =>
        if b = true then te σ2 H3 fun y H4 => ∃ acc, H4 D = some (.lst acc) ∧ acc.length < sizeLine ∧ Nx (upd H4 D (.lst (acc ++ [y]))) else Nx H3) := by
  refine ⟨fun i m H => m = kvs.length - i ∧ i ≤ kvs.length ∧ Pv i H, ⟨kvs.length, by simp, Nat.zero_le _, h0⟩, ?_⟩
  rintro i m H ⟨rfl, hi, p⟩
  have q := hl i H hi p
  by_cases hlt : i < kvs.length
  · refine .inr ⟨⟨q, hlt⟩, Pv (i + 1), fun H' p' => ⟨kvs.length - (i + 1), by omega, rfl, hlt, p'⟩, fun x H' y => ?_⟩
    obtain ⟨e, k, v, hk, rfl⟩ := y
    subst e
    exact hs i k v _ hk p
  · have e : i = kvs.length := by omega
    subst e
    exact .inl ⟨⟨q, Nat.le_refl _⟩, hd H p⟩
end Wr

set_option Elab.async false
set_option linter.all false
set_option maxRecDepth 100000
set_option maxHeartbeats 2000000
/-! Data that may be compared; slices and sums of tuples, whichever object they give. -/
namespace Wr
open PySem PySem.Spec PyProof.Rows L2
structure Shp (m : Nat) (d : PyData) : Prop where
  lay : d.canLay0 = true
  dep : d.depth ≤ m
theorem Shp.shaped {m : Nat} {d : PyData} (h : Shp m d) (hm : m ≤ 64) : SeqAt.shaped d = true := by
  unfold SeqAt.shaped
  rw [h.lay, Bool.true_and]
  exact decide_eq_true (Nat.le_trans h.dep hm)
theorem Shp.mono {m m' : Nat} {d : PyData} (h : Shp m d) (hm : m ≤ m') : Shp m' d := ⟨h.lay, Nat.le_trans h.dep hm⟩
theorem shp_int {m : Nat} (i : Int) : Shp m (.int i) := ⟨by simp [PyData.canLay0], by simp [PyData.depth]⟩
theorem shp_bool {m : Nat} (i : Bool) : Shp m (.bool i) := ⟨by simp [PyData.canLay0], by simp [PyData.depth]⟩
theorem shp_none {m : Nat} : Shp m .none := ⟨by simp [PyData.canLay0], by simp [PyData.depth]⟩
theorem shp_str {m : Nat} {s : Str} (h : PyData.strOk s = true) : Shp m (.str s) := ⟨by simp [PyData.canLay0, h], by simp [PyData.depth]⟩
theorem shp_all {m : Nat} : ∀ {ds : List PyData}, (∀ d ∈ ds, Shp m d) → PyData.canLayAll0 ds = true ∧ PyData.depthAll ds ≤ m
  | [], _ => ⟨by rw [PyData.canLayAll0], by rw [PyData.depthAll]; omega⟩
  | d :: r, h => by
    obtain ⟨h1, h2⟩ := shp_all fun x hx => h x (List.mem_cons_of_mem _ hx)
    have h3 := h d List.mem_cons_self
    have h4 := h3.dep
    refine ⟨by rw [PyData.canLayAll0, h3.lay, h1]; rfl, ?_⟩
    rw [PyData.depthAll]
    omega
theorem shp_tup {m : Nat} {ds : List PyData} (h : ∀ d ∈ ds, Shp m d) : Shp (m + 1) (.tuple ds) := by
  obtain ⟨h1, h2⟩ := shp_all h
  exact ⟨by rw [PyData.canLay0, h1], by rw [PyData.depth]; omega⟩
theorem shp_lst {m : Nat} {ds : List PyData} (h : ∀ d ∈ ds, Shp m d) : Shp (m + 1) (.list ds) := by
  obtain ⟨h1, h2⟩ := shp_all h
  exact ⟨by rw [PyData.canLay0, h1], by rw [PyData.depth]; omega⟩
theorem eqvL_nil (ds : List PyData) : PyData.eqv (.list ds) (.list []) = ds.isEmpty := by
  cases ds with
  | nil => rw [PyData.eqv, PyData.eqvAll]; rfl
  | cons c r => rw [PyData.eqv, PyData.eqvAll]; rfl
theorem eqvT_nil (ds : List PyData) : PyData.eqv (.tuple ds) (.tuple []) = ds.isEmpty := by
  cases ds with
  | nil => rw [PyData.eqv, PyData.eqvAll]; rfl
  | cons c r => rw [PyData.eqv, PyData.eqvAll]; rfl
/-! data without bools and dicts: equal as Python has it exactly if equal -/
mutual
def exD : PyData → Bool
  | .bool _ => false
  | .dict _ => false
  | .list ds => exDL ds
  | .tuple ds => exDL ds
  | .none => true
  | .int _ => true
  | .str _ => true
def exDL : List PyData → Bool
  | [] => true
  | d :: r => exD d && exDL r
end
mutual
theorem eqv_ex : ∀ d e : PyData, exD d = true → exD e = true → (PyData.eqv d e = true ↔ d = e)
  | .none, e, _, he => by cases e <;> simp [PyData.eqv, exD] at he ⊢
  | .int i, e, _, he => by cases e <;> simp [PyData.eqv, exD] at he ⊢
  | .str s, e, _, he => by cases e <;> simp [PyData.eqv, exD] at he ⊢
  | .list ds, e, hd, he => by
    cases e with
    | list es =>
      rw [PyData.eqv, eqv_exL ds es (by simpa [exD] using hd) (by simpa [exD] using he)]
      simp
    | _ => simp [PyData.eqv, exD] at he ⊢
  | .tuple ds, e, hd, he => by
    cases e with
    | tuple es =>
      rw [PyData.eqv, eqv_exL ds es (by simpa [exD] using hd) (by simpa [exD] using he)]
      simp
    | _ => simp [PyData.eqv, exD] at he ⊢
  | .bool _, _, hd, _ => by simp [exD] at hd
  | .dict _, _, hd, _ => by simp [exD] at hd
theorem eqv_exL : ∀ ds es : List PyData, exDL ds = true → exDL es = true → (PyData.eqvAll ds es = true ↔ ds = es)
  | [], [], _, _ => by simp [PyData.eqvAll]
  | [], e :: es, _, _ => by simp [PyData.eqvAll]
  | d :: ds, [], _, _ => by simp [PyData.eqvAll]
  | d :: ds, e :: es, hd, he => by
    simp only [exDL, Bool.and_eq_true] at hd he
    rw [PyData.eqvAll, Bool.and_eq_true, eqv_ex d e hd.1 he.1, eqv_exL ds es hd.2 he.2]
    simp
end
theorem exDL_all {ds : List PyData} : exDL ds = true ↔ ∀ d ∈ ds, exD d = true := by
  induction ds with
  | nil => simp [exDL]
  | cons d r ih => simp [exDL, ih]
theorem eqv_bool {d e : PyData} {b : Bool} (hd : exD d = true) (he : exD e = true) (h : d = e ↔ b = true) : PyData.eqv d e = b := by
  have z := eqv_ex d e hd he
  cases b with
  | true => exact z.mpr (h.mpr rfl)
  | false =>
    cases hq : PyData.eqv d e with
    | false => rfl
    | true => exact absurd (h.mp (z.mp hq)) (by decide)
/-! slices and sums of tuples -/
theorem sl_any {K : PySem.W.Frag} {H : Hp} {a : Addr} {xs : List V} {lo hi : Option Int} {Q : VK} (h : Rd H a (.tup xs)) (q : ∀ (p : Addr) (H' : Hp), Le H H' → Rd H' p (.tup (cutV xs lo hi)) → Q (.ref p) H') : rSlA K (.ref a) lo hi H Q := by
  refine ⟨a, xs, rfl, sqR h, fun z => q a H (Le.refl _) ?_, fun _ p hp => q p _ (Le.new hp) (.inl upd_same)⟩
  have e : cutV xs lo hi = xs := by
    unfold cutV
    rw [z.1, z.2, List.drop_zero, Nat.sub_zero, List.take_length]
  rw [e]
  exact h
theorem cat_any {K : PySem.W.Frag} {H : Hp} {a b : Addr} {xs ys : List V} {Q : VK} (h : Rd H a (.tup xs)) (h2 : Rd H b (.tup ys)) (hl : xs.length + ys.length ≤ sizeLine) (q : ∀ (p : Addr) (H' : Hp), Le H H' → Rd H' p (.tup (xs ++ ys)) → Q (.ref p) H') : rCatA K (.ref a) (.ref b) H Q := by
  refine ⟨a, b, xs, ys, rfl, rfl, sqR h, sqR h2, hl, fun e => q b H (Le.refl _) ?_, fun _ e => q a H (Le.refl _) ?_, fun _ _ p hp => q p _ (Le.new hp) (.inl upd_same)⟩
  · rw [e]
    exact h2
  · rw [e, List.append_nil]
    exact h
theorem ints_dpAll {K : PySem.W.Frag} {H : Hp} : ∀ s : List Int, DpAll K H (s.map V.int) (s.map PyData.int)
  | [] => .nil
  | x :: r => .cons (.int x) (ints_dpAll r)
theorem shp_ints (s : List Int) : ∀ d ∈ s.map PyData.int, Shp 0 d := fun d hd => by
  obtain ⟨x, _, rfl⟩ := List.mem_map.mp hd
  exact shp_int x
theorem cut_take {xs : List V} {k : Nat} : cutV xs none (some (k : Int)) = xs.take k := by
  unfold cutV
  rw [HT.sIx_nat, HT.sIx_none, List.drop_zero, Nat.sub_zero]
  rcases Nat.le_total k xs.length with h | h
  · rw [Nat.min_eq_left h]
  · rw [Nat.min_eq_right h, List.take_length, List.take_of_length_le h]
theorem cut_drop {xs : List V} {k : Nat} : cutV xs (some (k : Int)) none = xs.drop k := by
  unfold cutV
  rw [HT.sIx_nat, HT.sIx_none]
  rcases Nat.le_total k xs.length with h | h
  · rw [Nat.min_eq_left h]
    exact List.take_of_length_le (by rw [List.length_drop]; omega)
  · rw [Nat.min_eq_right h, List.drop_length, List.drop_of_length_le h, List.take_nil]
end Wr

set_option Elab.async false
set_option linter.all false
set_option maxRecDepth 100000
set_option maxHeartbeats 2000000
/-! A list against [], whatever its items are; list(d) of a dict that may be frozen. -/
namespace D2
open PySem PySem.Spec PyProof.Rows L2
section
variable {X : Cx}
def rNeN (K : PySem.W.Frag) : R2 := fun x y H Q => ∃ a b xs, x = .ref a ∧ y = .ref b ∧ SqL K H a xs ∧ SqL K H b [] ∧ Q (.bl (!xs.isEmpty)) H
def rEqN (K : PySem.W.Frag) : R2 := fun x y H Q => ∃ a b xs, x = .ref a ∧ y = .ref b ∧ SqL K H a xs ∧ SqL K H b [] ∧ Q (.bl xs.isEmpty) H
theorem op_neN (hu : X.A.units < cLine) : OpR X (compareOp .NotEq) (rNeN X.K) := by
  intro pins s σ H x y v u Q I rx ry h
  obtain ⟨a, b, xs, rfl, rfl, ha, hb, q⟩ := h
  obtain rfl : v = Value.ref a := rx
  obtain rfl : u = Value.ref b := ry
  obtain ⟨its, r1, p1, _⟩ := I.list ha
  obtain ⟨its2, r2, p2, _⟩ := I.list hb
  have e2 : its2 = [] := by cases r2; rfl
  subst e2
  cases r1 with
  | nil => exact SeqAt.RcNeAt.lists (e := fun _ => true) p1.isList p2.isList rfl hu (fun j h1 _ => absurd h1 (by simp)) _ _ _ _ (fin_bl I q rfl)
  | cons h1 h2 => exact SeqAt.RcNeAt.lists_lengths p1.isList p2.isList (by simp) hu _ _ _ _ (fin_bl I q rfl)
theorem op_eqN (hu : X.A.units < cLine) : OpR X (compareOp .Eq) (rEqN X.K) := by
  intro pins s σ H x y v u Q I rx ry h
  obtain ⟨a, b, xs, rfl, rfl, ha, hb, q⟩ := h
  obtain rfl : v = Value.ref a := rx
  obtain rfl : u = Value.ref b := ry
  obtain ⟨its, r1, p1, _⟩ := I.list ha
  obtain ⟨its2, r2, p2, _⟩ := I.list hb
  have e2 : its2 = [] := by cases r2; rfl
  subst e2
  cases r1 with
  | nil => exact SeqAt.RcAt.lists (e := fun _ => true) p1.isList p2.isList rfl hu (fun j h1 _ => absurd h1 (by simp)) _ _ _ _ (fin_bl I q rfl)
  | cons h1 h2 => exact SeqAt.RcAt.lists_lengths p1.isList p2.isList (by simp) hu _ _ _ _ (fin_bl I q rfl)
def rListR : List V → Hp → VK → Prop := fun xs H Q => ∃ p kvs, xs = [.ref p] ∧ Rd H p (.dK kvs) ∧ ∀ q, H q = none → Q (.ref q) (upd H q (.lst (kvs.map fun kv => kV kv.1)))
theorem call_listR (hc : X.calm = true) : CallR X (.type "list") rListR := by
  intro pins s σ H xs us Q I r h
  obtain ⟨p, kvs, e, hk, q⟩ := h
  subst e
  obtain ⟨u, eu, rx⟩ := vals1 r
  subst eu
  obtain rfl : u = Value.ref p := rx
  obtain ⟨z, lo, vs, rk, hd⟩ := dk_rd I.hok hk
  obtain ⟨ep, hat⟩ := hd.dictAt
  have hl : kvs.length = vs.length := Paired.length rk
  refine PySem.W.kdl_call (PySem.W.kdl_dict (knd := mixKind X.prog X.w) (kvs := vs) (ep := ep) lo) (I.ok.hd hc) hat (by rw [← hl]; exact z) fun h' tk acc' c' hkeep hS hacc => ?_
  refine ⟨.ref s.heap.objs.size, upd H s.heap.objs.size (.lst (kvs.map fun kv => kV kv.1)), I.laid hkeep (Nat.le_refl _) (show ObjOk X.prog X.w _ _ _ (.lst (kvs.map fun kv => kV kv.1)) from ⟨?_, acc'.toList, c', ?_, ?_⟩), rfl, q _ (I.hok.fresh (Nat.le_refl _))⟩
  · rw [List.length_map]; exact z
  · have el : acc'.toList.length = acc'.size := by simp
    refine vals_of_at (by rw [List.length_map, el, hacc.1, hl]) fun j x w h1 h2 => ?_
    obtain ⟨k, y, hky, hi⟩ := hacc.2 j w (by rw [← Array.getElem?_toList]; exact h2)
    have e1 : (kvs.map (·.1))[j]? = some k := by
      rw [KV.keys rk, List.getElem?_map, hky] <;> rfl
    have e2 : (kvs.map fun kv => kV kv.1)[j]? = some (kV k) := by
      have e3 : (kvs.map fun kv => kV kv.1) = (kvs.map (·.1)).map kV := by rw [List.map_map] <;> rfl
      rw [e3, List.getElem?_map, e1] <;> rfl
    rw [e2] at h1
    cases h1
    exact keyIs_rel hi
  · rw [Array.toArray_toList]; exact hS
end
end D2

set_option Elab.async false
set_option linter.all false
set_option maxRecDepth 100000
set_option maxHeartbeats 2000000
/-! sorted(..) of a list or a tuple of alike data, reverse=True too: the one sorted list. -/
namespace D2
open PySem PySem.Spec PyProof.Rows L2
section
variable {prog : Program} {w : World} {A : Around} {E : Value → Shared → Prop} {s : Shared}
theorem collect_tup {l : Addr} {vs : List Value} {Q : List Value → Shared → Prop} (hl : IsTup s.heap l vs.toArray)
    (h : Q vs { s with heap := (s.heap.push (seqObj "list" #[] 0)).update s.heap.objs.size (Obj.mapSeq (· ++ vs.toArray)) }) (hsz : vs.length ≤ sizeLine) :
    wpAny (model prog w) A (collect (.ref l)) Q E s := by
  obtain ⟨o, ho, hc, n, hd⟩ := id hl
  unfold collect
  refine wpAny_bind (wpAny_runValue (codeAny_builtin entry_proto_collect' ?_))
  show wpAny _ _ (do again (.builtin "list.__iadd__" ⟨[← newList [], .ref l], []⟩)) _ _ s
  refine wpAny_bind (wpAny_newList (wpAny_pure ⟨Code.quiet_builtin _ (by decide +kernel), codeAny_builtin entry_list_iadd' ?_⟩))
  show wpAny _ _ (Builtin.List.listExtendWith (.ref s.heap.objs.size) (.ref l) (.ref s.heap.objs.size)) _ _ { s with heap := s.heap.push (seqObj "list" #[] 0) }
  unfold Builtin.List.listExtendWith
  have ho' : (s.heap.push (seqObj "list" #[] 0)).get? l = some o := Heap.get?_push_of_some _ ho
  refine wpAny_bind (wpAny_typeOf (T := "tuple") ⟨o, ho', hc⟩ ?_)
  have ht : (Value.type "tuple" == Value.type "tuple") = true := by rfl
  rw [if_pos (by rw [ht]; simp)]
  refine wpAny_bind (listItems_at ho' hd ?_)
  refine wpAny_bind (listItems_at (xs := #[]) (n := 0) (Heap.get?_push_size _ rfl) rfl ?_)
  rw [if_neg (by simp)]
  refine wpAny_bind (listUpdate_at (xs := #[]) (n := 0) (Heap.get?_push_size _ rfl) rfl ?_ (Nat.zero_le _) (by show (#[] ++ vs.toArray).size ≤ sizeLine + 1; simp only [Array.size_append, List.size_toArray, List.length_nil]; omega))
  refine wpAny_pure ?_
  show wpAny (model prog w) A (do
      let o ← load s.heap.objs.size
      match o.data with
      | .seq xs _ => pure xs.toList
      | _ => unsupported "internal:collect") Q E { s with heap := (s.heap.push (seqObj "list" #[] 0)).update s.heap.objs.size (Obj.mapSeq (· ++ vs.toArray)) }
  refine wpAny_bind (wpAny_load (get?_update_seq (Heap.get?_push_size _ rfl) _) ?_)
  show wpAny _ _ (pure ((#[] : Array Value) ++ vs.toArray).toList) Q E _
  rw [show ((#[] : Array Value) ++ vs.toArray).toList = vs by simp]
  exact wpAny_pure h
theorem sorted_of_sort2 {l : Addr} {vs : List Value} {kw : List (Str × Value)} {Q : Value → Shared → Prop} (hl : s.heap.IsList l vs.toArray ∨ IsTup s.heap l vs.toArray) (hL : vs.length ≤ sizeLine) (ha1 : argsOk "sorted" ⟨[.ref l], kw⟩) (ha2 : ∀ x, argsOk "list.sort" ⟨[.ref x], kw⟩)
    (body : ∀ E' : Value → Shared → Prop, wpAny (model prog w) A.in1.in1 (Builtin.«list.sort» ⟨[.ref (s.heap.objs.size + 1)], kw⟩) (fun f s' => f = .done (.ret .none) ∧ Q (.ref (s.heap.objs.size + 1)) s') E' { s with heap := PySem.W.copyHeap s.heap vs }) :
    wpAny (model prog w) A (call (.builtin "sorted") [.ref l] kw) Q E s := by
  refine call_function_entry_kw kind_sorted plain_sorted entry_sorted ha1 ?_
  unfold Builtin.«sorted»
  refine wpAny_bind (m := checkCount "sorted" 1 1 _) (wpAny_pure ?_)
  have go : ∀ Q', (Q' vs { s with heap := (s.heap.push (seqObj "list" #[] 0)).update s.heap.objs.size (Obj.mapSeq (· ++ vs.toArray)) }) → wpAny (model prog w) A.in1 (collect (.ref l)) Q' E s := fun Q' z => by
    rcases hl with hl | hl
    · exact collect_list hl z hL
    · exact collect_tup hl z hL
  refine wpAny_bind (go _ ?_)
  refine wpAny_bind (wpAny_newList ?_ hL)
  have hsz : ((s.heap.push (seqObj "list" #[] 0)).update s.heap.objs.size (Obj.mapSeq (· ++ vs.toArray))).objs.size = s.heap.objs.size + 1 := by
    rw [Heap.size_update, size_push']
  show wpAny _ _ _ _ _ { s with heap := PySem.W.copyHeap s.heap vs }
  rw [hsz]
  refine wpAny_bind (wpAny_holding (wpAny_call_entry_kw slot_list_sort ⟨_, PySem.W.copyHeap_at s.heap vs, rfl⟩ entry_list_sort ?body (ha2 _)))
  case body =>
    show wpAny (model prog w) A.in1.in1 (Builtin.«list.sort» ⟨[.ref (s.heap.objs.size + 1)], kw⟩) _ _ _
    refine wpAny_mono (body _) (fun f s' hf => ?_) fun _ _ e => e
    obtain ⟨rfl, hq⟩ := hf
    exact ⟨_, rfl, wpAny_pure ⟨_, rfl, hq⟩⟩
end
/-- the order of data, as sorted has it -/
def leD (rev : Bool) (a b : PyData) : Bool := PySem.W.dataLe rev id a b
section
variable {X : Cx}
/-- what is sorted: the items of a list or a tuple, data of one kind -/
def rSortD (K : PySem.W.Frag) (rev : Bool) : List V → Hp → VK → Prop := fun vs H Q => ∃ (a : Addr) (xs : List V) (ds : List PyData), vs = [.ref a] ∧ (SqL K H a xs ∨ SqT K H a xs) ∧ DpAll K H xs ds ∧ PySem.W.AllAlike ds ∧ PySem.W.Sortable ds ∧ (∀ d ∈ ds, d.depth ≤ 60) ∧
  ∀ (ys : List V) (p : Addr), H p = none → DpAll K H ys (ds.mergeSort (leD rev)) → ys.Perm xs → Q (.ref p) (upd H p (.lst ys))
theorem dpAll_zip {K : PySem.W.Frag} {H : Hp} : ∀ {xs : List V} {ds : List PyData}, DpAll K H xs ds → ∀ p ∈ xs.zip ds, Dp K H p.1 p.2
  | _, _, .nil, p, h => by simp at h
  | _, _, .cons h r, p, hp => by
    rcases List.mem_cons.mp hp with z | z
    · rw [z]; exact h
    · exact dpAll_zip r p z
theorem dpAll_of {K : PySem.W.Frag} {H : Hp} : ∀ {zs : List (V × PyData)}, (∀ p ∈ zs, Dp K H p.1 p.2) → DpAll K H (zs.map Prod.fst) (zs.map Prod.snd)
  | [], _ => .nil
  | z :: r, h => .cons (h z List.mem_cons_self) (dpAll_of fun p hp => h p (List.mem_cons_of_mem _ hp))
theorem each_vals : ∀ {us : List Value} {xs : List V} {ds : List PyData}, Vals xs us → xs.length = ds.length → PySem.W.EachIs (fun v (b : V × PyData) => RelV b.1 v) us (xs.zip ds)
  | _, _, [], .nil, _ => .nil
  | _, _, _ :: _, .nil, h => by simp at h
  | _, _, [], .cons _ _, h => by simp at h
  | _, _, d :: ds, .cons h t, hl => .cons h (each_vals t (by simpa using hl))
theorem vals_each : ∀ {us : List Value} {zs : List (V × PyData)}, PySem.W.EachIs (fun v (b : V × PyData) => RelV b.1 v) us zs → Vals (zs.map Prod.fst) us
  | _, _, .nil => .nil
  | _, _, .cons h t => .cons h (vals_each t)
theorem each_reads {pins : List (Addr × Obj)} {σ : L2.St} {H : Hp} {s : Shared} (I : Inv X pins σ H s) : ∀ {us : List Value} {xs : List V} {ds : List PyData}, Vals xs us → DpAll X.K H xs ds → PySem.W.EachIs (fun v (b : V × PyData) => ∃ as, Reads s.heap v b.2 as) us (xs.zip ds)
  | _, _, _, .nil, .nil => .nil
  | _, _, _, .cons h t, .cons g r => .cons (Dp.reads I _ _ _ g h) (each_reads I t r)
theorem dpAll_len {K : PySem.W.Frag} {H : Hp} : ∀ {xs : List V} {ds : List PyData}, DpAll K H xs ds → xs.length = ds.length
  | _, _, .nil => rfl
  | _, _, .cons _ r => by rw [List.length_cons, List.length_cons, dpAll_len r]
theorem sortD_run {rev : Bool} {kw : List (Str × Value)} {pins : List (Addr × Obj)} {s : Shared} {σ : L2.St} {H : Hp} {a : Addr} {xs : List V} {ds : List PyData} {Q : VK} (I : Inv X pins σ H s) (hu : X.A.units + 64 < cLine) (hs : SqL X.K H a xs ∨ SqT X.K H a xs) (hd : DpAll X.K H xs ds)
    (hal : PySem.W.AllAlike ds) (hk : PySem.W.Sortable ds) (hdep : ∀ d ∈ ds, d.depth ≤ 60) (hkw : ∀ b, Builtin.«list.sort» ⟨[.ref b], kw⟩ = Builtin.«list.sort» ⟨[.ref b], [(Str.ofString "reverse", .bool rev)]⟩) (ha1 : argsOk "sorted" ⟨[.ref a], kw⟩) (ha2 : ∀ x, argsOk "list.sort" ⟨[.ref x], kw⟩)
    (q : ∀ (ys : List V) (p : Addr), H p = none → DpAll X.K H ys (ds.mergeSort (leD rev)) → ys.Perm xs → Q (.ref p) (upd H p (.lst ys))) : wpAny (model X.prog X.w) X.A (call (.builtin "sorted") [.ref a] kw) (EP X pins σ Q) X.xe s := by
  obtain ⟨its, rv, hl, hz⟩ : ∃ its : List Value, Vals xs its ∧ (s.heap.IsList a its.toArray ∨ IsTup s.heap a its.toArray) ∧ xs.length ≤ sizeLine := by
    rcases hs with hs | hs
    · obtain ⟨its, rv, hl, hz⟩ := I.list hs
      exact ⟨its, rv, .inl hl.isList, hz⟩
    · obtain ⟨its, rv, hl, hz⟩ := I.tuple hs
      exact ⟨its, rv, .inr hl, hz⟩
  have len := dpAll_len hd
  have zl : (xs.zip ds).map Prod.snd = ds := List.map_snd_zip (by omega)
  have zf : (xs.zip ds).map Prod.fst = xs := List.map_fst_zip (by omega)
  have el : its.length = (xs.zip ds).length := by
    rw [← rv.length, List.length_zip]
    omega
  refine sorted_of_sort2 hl (by rw [← rv.length]; exact hz) ha1 ha2 fun E' => ?_
  rw [hkw]
  have e := each_vals rv len
  have er := each_reads I rv hd
  have er' : PySem.W.EachIs (fun v (b : V × PyData) => ∃ as, Reads (PySem.W.sortingHeap (PySem.W.copyHeap s.heap its) (s.heap.objs.size + 1) its) v b.2 as) its (xs.zip ds) := er.mono fun _ _ ⟨as, r⟩ => ⟨as, PyProof.Rows.Reads.keeps (fun _ _ => PySem.W.sorting_copy_old) r⟩
  have S : PySem.W.SortsAt X.prog X.w X.A.in1.in1 { s with heap := PySem.W.sortingHeap (PySem.W.copyHeap s.heap its) (s.heap.objs.size + 1) its } (PySem.W.dataKind (PySem.W.sortingHeap (PySem.W.copyHeap s.heap its) (s.heap.objs.size + 1) its) ((xs.zip ds).map Prod.snd)) its := by
    refine PySem.W.SortsAt.data (s := { s with heap := PySem.W.sortingHeap (PySem.W.copyHeap s.heap its) (s.heap.objs.size + 1) its }) (PySem.W.each_map (R := fun v d => ∃ as, Reads (PySem.W.sortingHeap (PySem.W.copyHeap s.heap its) (s.heap.objs.size + 1) its) v d as) Prod.snd er') (by rw [zl]; exact hal) (by rw [zl]; exact hk) fun d hd2 => ?_
    rw [zl] at hd2
    have := hdep d hd2
    show X.A.units + 1 + 1 + d.depth < cLine
    omega
  refine PySem.W.list_sort_rev_vals (s := { s with heap := PySem.W.copyHeap s.heap its }) (PySem.W.copyHeap_at s.heap its) S (by rw [← rv.length]; exact hz) ⟨rfl, ?_⟩
  have out := PySem.W.sortVals_data (h' := PySem.W.sortingHeap (PySem.W.copyHeap s.heap its) (s.heap.objs.size + 1) its) rev e er' (by rw [zl]; exact hal)
  have rv2 := vals_each out
  have pz : ((xs.zip ds).mergeSort (PySem.W.dataLe rev Prod.snd)).Perm (xs.zip ds) := List.mergeSort_perm _ _
  have d2 : DpAll X.K H (((xs.zip ds).mergeSort (PySem.W.dataLe rev Prod.snd)).map Prod.fst) (((xs.zip ds).mergeSort (PySem.W.dataLe rev Prod.snd)).map Prod.snd) := dpAll_of fun p hp => dpAll_zip hd p (pz.mem_iff.mp hp)
  have es : ((xs.zip ds).mergeSort (PySem.W.dataLe rev Prod.snd)).map Prod.snd = ds.mergeSort (leD rev) := by
    have z := PySem.W.sort_maps (r := PySem.W.dataLe rev Prod.snd) (s := leD rev) Prod.snd (l := xs.zip ds) (fun a _ b _ => rfl)
    rw [zl] at z
    exact z
  rw [es] at d2
  have pf := pz.map Prod.fst
  rw [zf] at pf
  obtain ⟨ep, he'⟩ := PyProof.Rows.sortedAll_at s.heap its (PySem.W.sortVals (PySem.W.dataKind (PySem.W.sortingHeap (PySem.W.copyHeap s.heap its) (s.heap.objs.size + 1) its) ((xs.zip ds).map Prod.snd)) rev its its).toArray
  refine ⟨.ref _, upd H (s.heap.objs.size + 1) (.lst (((xs.zip ds).mergeSort (PySem.W.dataLe rev Prod.snd)).map Prod.fst)), I.laid (t' := s.toks) (fun _ _ => PyProof.Rows.sortedAll_old) (Nat.le_succ _) ⟨?_, _, ep, rv2, he'⟩, rfl, q _ _ (I.hok.fresh (Nat.le_succ _)) d2 pf⟩
  rw [pf.length_eq]
  exact hz
theorem cr_sortD (hu : X.A.units + 64 < cLine) : CallR X (.builtin "sorted") (rSortD X.K false) := by
  intro pins s σ H vs us Q I r h
  obtain ⟨a, xs, ds, rfl, hs, hd, hal, hk, hdep, q⟩ := h
  rw [Vals.ref1 r]
  exact sortD_run I hu hs hd hal hk hdep PySem.W.plain_is_rev (args_sorted1 _) (fun _ => args_list_sort _) q
def rSortR (K : PySem.W.Frag) : List V → List V → Hp → VK → Prop := fun vs zs H Q => ∃ b, zs = [.bl b] ∧ rSortD K b vs H Q
theorem cr_sortR (hu : X.A.units + 64 < cLine) : CallRK X (.builtin "sorted") [Str.ofString "reverse"] (rSortR X.K) := by
  intro pins s σ H vs zs us ws Q I r rz h
  obtain ⟨b, rfl, a, xs, ds, rfl, hs, hd, hal, hk, hdep, q⟩ := h
  obtain rfl := Vals.ref1 r
  obtain ⟨w1, rfl, e1⟩ := vals1 rz
  obtain rfl : w1 = Value.bool b := e1
  exact sortD_run I hu hs hd hal hk hdep (fun _ => rfl) (args_sorted_rev _ _) (fun _ => args_list_sort_rev _ _) q
end
end D2

set_option Elab.async false
set_option linter.all false
set_option maxRecDepth 100000
set_option maxHeartbeats 2000000
/-! A generator expression over any walk. -/
namespace GZ
open PySem PySem.Spec PyProof.Rows L2
theorem gx_it {J : It} {n : Nat} {G : Hp → Prop} {Y : Nat → Hp → V → Hp → Prop} (w : Walk J n G Y) {g : TG} {tt : TT} {te : TE} {vs : List Nat} {σ : L2.St} {cont : List V → Hp → Prop} {H2 : Hp} (Pv : Nat → List V → Hp → Prop) (h0 : Pv 0 [] H2) (hG : ∀ i ys H, i ≤ n → Pv i ys H → G H)
    (hs : ∀ i x ys H H', i < n → Pv i ys H → Y i H x H' → g x (wipe σ vs) H' fun σ2 H3 => wipe σ2 vs = wipe σ vs ∧ tt σ2 H3 fun b H4 => if b = true then ys.length < sizeLine ∧ te σ2 H4 fun y H5 => Pv (i + 1) (ys ++ [y]) H5 else Pv (i + 1) ys H4) (hd : ∀ ys H, Pv n ys H → cont ys H) :
    ∃ W : Nat → Nat → List V → Hp → Prop, (∃ m, W 0 m [] H2) ∧ Turns J g tt te vs σ cont W := by
  refine ⟨fun i m ys H => m = n - i ∧ i ≤ n ∧ Pv i ys H, ⟨n, by simp, Nat.zero_le _, h0⟩, ?_⟩
  rintro i m ys H ⟨rfl, hi, p⟩
  have q := hG i ys H hi p
  by_cases hlt : i < n
  · exact .inr ⟨w.goes i H hlt q, Pv (i + 1), fun ys' H' p' => ⟨n - (i + 1), by omega, rfl, hlt, p'⟩, fun x H' y => hs i x ys H H' hlt p (w.yields i H x H' hlt q y)⟩
  · have e : i = n := by omega
    subst e
    exact .inl ⟨w.stops H q, hd ys H p⟩
end GZ

set_option Elab.async false
set_option linter.all false
set_option maxRecDepth 100000
set_option maxHeartbeats 3200000
namespace Wr
open PySem PySem.Spec PyProof.Rows L2
/-! ### for x, y in zip(t, l), t a tuple, l a list -/
def ItzM (K : PySem.W.Frag) (a b : Addr) : It :=
  ⟨fun i H => ∃ (xs ys : List V) (x y : V), SqT K H a xs ∧ SqL K H b ys ∧ xs[i]? = some x ∧ ys[i]? = some y,
    fun i H v H' => ∃ T x y, v = .ref T ∧ H T = none ∧ H' = upd H T (.tup [x, y]) ∧ (∀ xs, SqT K H a xs → xs[i]? = some x) ∧ ∀ ys, SqL K H b ys → ys[i]? = some y,
    fun i H => ∃ xs ys : List V, SqT K H a xs ∧ SqL K H b ys ∧ i ≤ xs.length ∧ i = ys.length⟩
theorem walk_zipM {K : PySem.W.Frag} {a b : Addr} {xs ys : List V} (hl : ys.length ≤ xs.length) : Walk (ItzM K a b) ys.length (fun H => SqT K H a xs ∧ SqL K H b ys) (YPair (fun i => xs[i]?) (fun i => ys[i]?)) := by
  refine ⟨fun i _ hi q => ⟨xs, ys, xs[i], ys[i], q.1, q.2, by simp [Nat.lt_of_lt_of_le hi hl], by simp [hi]⟩, fun _ q => ⟨xs, ys, q.1, q.2, hl, rfl⟩, fun i H v H' _ q y => ?_⟩
  obtain ⟨T, x, y, h1, h2, h3, h4, h5⟩ := y
  exact ⟨T, x, y, h1, h2, h3, h4 xs q.1, h5 ys q.2⟩
theorem turn_zipM {P : Program} {w : World} {K : PySem.W.Frag} {elts : List Expr} {kk : Nat} {tpos : Pos} {a b z TI TO i1 i2 : Addr} (S : ZipSep2 z TI TO i1 i2 [i1, a] [i2, b]) (na : a ≠ i1) (nb : b ≠ i2) :
    Turn P w K (.Tuple elts kk tpos) (ItzM K a b) [z, TI, TO, i1, i2] z (fun i h => IsZip h z TI TO .none ∧ IsTupOf2 h TI (.ref i1) (.ref i2) ∧ (∃ x y, IsTupOf2 h TO x y) ∧ h.IsTupleIter i1 a i ∧ h.IsListIter i2 b i) where
  mem := by simp
  obj := fun i h st c hc => by
    obtain ⟨hz, hTI, ⟨x, y, hTO⟩, ⟨o1, e1, _, d1⟩, ⟨o2, e2, _, d2⟩⟩ := st
    have e' : c = z ∨ c = TI ∨ c = TO ∨ c = i1 ∨ c = i2 := by simpa using hc
    rcases e' with q | q | q | q | q
    · rw [q]; exact ⟨_, hz, fun v q => nomatch q⟩
    · rw [q]; exact ⟨_, hTI, fun v q => nomatch q⟩
    · rw [q]; exact ⟨_, hTO, fun v q => nomatch q⟩
    · rw [q]; exact ⟨o1, e1, fun v q => by rw [d1] at q; cases q⟩
    · rw [q]; exact ⟨o2, e2, fun v q => by rw [d2] at q; cases q⟩
  keep := fun i h h' st k => by
    obtain ⟨hz, hTI, ⟨x, y, hTO⟩, h1, h2⟩ := st
    exact ⟨k z (by simp) _ hz, k TI (by simp) _ hTI, ⟨x, y, k TO (by simp) _ hTO⟩, h1.at fun o q => k i1 (by simp) o q, h2.at fun o q => k i2 (by simp) o q⟩
  item := by
    intro X hP hw hK hc i pins s σ H E I hf st hg
    subst hP hw hK
    obtain ⟨hz, hTI, ⟨x0, y0, hTO⟩, h1, h2⟩ := st
    obtain ⟨xs, ys, x, y, hqx, hqy, hx, hy⟩ := hg
    obtain ⟨its, rv, p, _⟩ := I.tuple hqx
    obtain ⟨its2, rv2, p2, _⟩ := I.list hqy
    obtain ⟨u, hu, ru⟩ := rv.get hx
    obtain ⟨u2, hu2, ru2⟩ := rv2.get hy
    have hzl : z < s.heap.objs.size := Heap.lt_size hz
    have hh : X.A.in1.handled = none := by simpa using I.ok.hd hc
    have isT : s.heap.IsTuple a its.toArray := p
    have isL : s.heap.IsList b its2.toArray := p2.isList
    have hi1 : i < its.toArray.size := by
      have := (List.getElem?_eq_some_iff.mp hu).1
      simpa using this
    have hi2 : i < its2.toArray.size := by
      have := (List.getElem?_eq_some_iff.mp hu2).1
      simpa using this
    refine wpAny_pyNext_zipD2_item S (Draws.tuple hh i1 a na its.toArray) (Draws.list hh i2 b nb its2.toArray) hz hTI hTO ⟨h1, isT⟩ ⟨h2, isL⟩ hi1 hi2 fun v1 v2 h' tk e1 e2 z' TO' st1 st2 hT hsz hk => ?_
    have ev1 : v1 = u := by
      have e1' : its[i]? = some v1 := by simpa using e1
      rw [hu] at e1'
      exact (Option.some.inj e1').symm
    have ev2 : v2 = u2 := by
      have e2' : its2[i]? = some v2 := by simpa using e2
      rw [hu2] at e2'
      exact (Option.some.inj e2').symm
    subst ev1 ev2
    refine ⟨_, rfl, wpAny_letOwnedTupleGo_zip (s := { s with heap := h', toks := tk }) z' fun h'' z'' sb => ?_⟩
    have hT2 : h''.get? s.heap.objs.size = some { cls := .type "tuple", data := .seq #[v1, v2] } := (sb.2 _ (Nat.ne_of_gt hzl)).trans hT
    have new : ObjOk X.prog X.w (upd H s.heap.objs.size (.tup [x, y])) h'' s.heap.objs.size (.tup [x, y]) :=
      ⟨by show 2 ≤ sizeLine; decide, [v1, v2], .cons ru (.cons ru2 .nil), ⟨_, hT2, rfl, _, rfl⟩⟩
    have I1 : Inv X pins σ (upd H s.heap.objs.size (.tup [x, y])) { s with heap := h'', toks := tk } :=
      I.turnedNew (t' := tk) (ch := [z, TI, TO, i1, i2]) (fun c o hb q => (sb.2 c (fun q' => hb (by simp [q']))).trans (hk c o (fun q' => hb (by simp [q'])) (fun q' => hb (by simp [q'])) (fun q' => hb (by simp [q'])) (fun q' => hb (by simp [q'])) q)) hf (Nat.le_refl _) new
    refine ⟨.ref s.heap.objs.size, _, I1, rfl, ⟨_, x, y, rfl, I.hok.fresh (Nat.le_refl _), rfl, fun l hl => by rw [I.tuple_inj hl hqx]; exact hx, fun l hl => by rw [I.list_inj hl hqy]; exact hy⟩, ⟨z'', ?_, ⟨v1, v2, ?_⟩, ?_, ?_⟩, fun c hcm => ?_⟩
    · exact (sb.2 _ S.TIz).trans (hk _ _ S.TIz S.TITO S.TIi1 S.TIi2 hTI)
    · exact (sb.2 _ S.TOz).trans TO'
    · exact st1.1.at fun o q => (sb.2 _ S.zi1.symm).trans q
    · exact st2.1.at fun o q => (sb.2 _ S.zi2.symm).trans q
    · have hlt : c < s.heap.objs.size := by
        have e' : c = z ∨ c = TI ∨ c = TO ∨ c = i1 ∨ c = i2 := by simpa using hcm
        rcases e' with q | q | q | q | q
        · rw [q]; exact hzl
        · rw [q]; exact Heap.lt_size hTI
        · rw [q]; exact Heap.lt_size hTO
        · rw [q]; obtain ⟨_, e1, _⟩ := h1; exact Heap.lt_size e1
        · rw [q]; obtain ⟨_, e2, _⟩ := h2; exact Heap.lt_size e2
      rw [upd_ne (Nat.ne_of_lt hlt)]
      exact (hf c hcm).1
  done := by
    intro X hP hw hK hc i pins s σ H E I hf st hg
    subst hP hw hK
    obtain ⟨hz, hTI, ⟨x0, y0, hTO⟩, h1, h2⟩ := st
    obtain ⟨xs, ys, hqx, hqy, hl1, hl2⟩ := hg
    obtain ⟨its, rv, p, _⟩ := I.tuple hqx
    obtain ⟨its2, rv2, p2, _⟩ := I.list hqy
    have l1 := rv.length
    have l2 := rv2.length
    have hh : X.A.in1.handled = none := by simpa using I.ok.hd hc
    have isT : s.heap.IsTuple a its.toArray := p
    have isL : s.heap.IsList b its2.toArray := p2.isList
    refine wpAny_pyNext_zipD2_end S (Draws.tuple hh i1 a na its.toArray) (Draws.list hh i2 b nb its2.toArray) hz hTI hTO ⟨h1, isT⟩ ⟨h2, isL⟩ (by simp; omega) (by simp; omega) (.inr (by simp; omega)) fun h' tk hk => ⟨rfl, I.turnedL (t' := tk) (ch := [z, TI, TO, i1, i2]) (fun c o hb q =>
      hk c o (fun q' => hb (by simp [q'])) (fun q' => hb (by simp [q'])) (fun q' => hb (by simp [q'])) (fun q' => hb (by simp [q'])) q) hf⟩
  self := fun A i s Q E st h => wpAny_pyIter_zip st.1 h
def iZipM (K : PySem.W.Frag) (ta : TA) : TI := fun σ H R => ta σ H fun vs H1 => ∃ a b xs ys, vs = [.ref a, .ref b] ∧ SqT K H1 a xs ∧ SqL K H1 b ys ∧ R (ItzM K a b) H1
theorem pi_zipM {X : Cx} {e e2 : Expr} {ta : TA} {p pos tpos : Pos} {elts : List Expr} {kk : Nat} (hg : Gl X "zip") (hm : X.mg "zip" = none) (ha : PA X [e, e2] ta)
    (hs : starEach [e, e2] X.env = (false, eval e X.env) :: starEach [e2] X.env := by rfl) (hpl : (backTo pos (starEach [e2] X.env)).any (·.1) = false := by rfl) :
    PI X (.Tuple elts kk tpos) (.Call (.Name "zip" p) [e, e2] [] pos) (iZipM X.K ta) := by
  refine ⟨fun pins s σ H R I h => ?_⟩
  refine Call_ (ld_blt I hg hm PyProof.Rows.boot_zip (PyProof.Rows.callWith_type1 (thn (ha.run pos pins s σ H _ I h) fun us s1 ⟨vs, H1, I1, r1, q1⟩ => ?_) hs hpl))
  obtain ⟨a, b, xs, ys, ex, hqx, hqy, q⟩ := q1
  subst ex
  cases r1 with
  | cons r rr =>
    cases rr with
    | cons r' rr =>
      cases rr
      cases r
      cases r'
      have fresh5 : ∀ c, c ∈ [s1.heap.objs.size + 4, s1.heap.objs.size + 2, s1.heap.objs.size + 3, s1.heap.objs.size, s1.heap.objs.size + 1] → FpOk X pins H1 c := fun c hcm => by
        have e' : c = s1.heap.objs.size + 4 ∨ c = s1.heap.objs.size + 2 ∨ c = s1.heap.objs.size + 3 ∨ c = s1.heap.objs.size ∨ c = s1.heap.objs.size + 1 := by simpa using hcm
        have hle : s1.heap.objs.size ≤ c := by
          rcases e' with z | z | z | z | z
          · rw [z]; exact Nat.le_add_right _ _
          · rw [z]; exact Nat.le_add_right _ _
          · rw [z]; exact Nat.le_add_right _ _
          · rw [z]; exact Nat.le_refl _
          · rw [z]; exact Nat.le_add_right _ _
        exact I1.fpOk hle (I1.hok.fresh hle)
      obtain ⟨its, rv, p1, _⟩ := I1.tuple hqx
      obtain ⟨its2, rv2, p2, _⟩ := I1.list hqy
      have la : a < s1.heap.objs.size := p1.lt
      have lb : b < s1.heap.objs.size := p2.lt
      refine zip_begins2 (begins_tuple a its.toArray) (begins_list b its2.toArray) p1 p2.isList fun h' hz hTI hTO h1 h2 hsz hk => wpAny_pyIter_zip hz ?_
      have I2 : Inv X pins σ H1 { s1 with heap := h' } := I1.kept (t' := s1.toks) hk
      refine ⟨s1.heap.objs.size + 4, [s1.heap.objs.size + 4, s1.heap.objs.size + 2, s1.heap.objs.size + 3, s1.heap.objs.size, s1.heap.objs.size + 1], _, _, H1, rfl, I2, turn_zipM (zip_sep2 (fun c hc => ?_) (fun c hc => ?_)) (Nat.ne_of_lt la) (Nat.ne_of_lt (Nat.lt_succ_of_lt lb)), ⟨hz, hTI, ⟨_, _, hTO⟩, ⟨_, h1, rfl, rfl⟩, ⟨_, h2, rfl, rfl⟩⟩, fresh5, q⟩
      · rw [List.mem_singleton.mp hc]
        exact la
      · rw [List.mem_singleton.mp hc]
        exact lb
end Wr

set_option Elab.async false
set_option linter.all false
set_option maxRecDepth 100000
set_option maxHeartbeats 2000000
/-! sorted(d.items()) of a dict with texts as keys and ints as values. -/
namespace GZ
open PySem PySem.Spec PyProof.Rows L2 SrtO
section
variable {X : Cx}
theorem srtP_tail {pins : List (Addr × Obj)} {σ : L2.St} {s : Shared} {H2 : Hp} {us : List Value} {out : List V} {Q : VK} (z : cSrtP Q out H2) (I : Inv X pins σ H2 s) (rv : Vals out us) (hlen : out.length ≤ sizeLine) :
    wpAny (model X.prog X.w) X.A.in1.in1 (Builtin.«list.sort» ⟨[.ref s.heap.objs.size], []⟩) (fun f s' => f = .done (.ret .none) ∧ EP X pins σ Q (.ref s.heap.objs.size) s') X.xe { s with heap := s.heap.push (seqObj "list" us.toArray 0) } := by
  obtain ⟨κ, hx, q⟩ := z
  obtain ⟨e1, e2⟩ := refs_back rv fun x m => by
    obtain ⟨t, e, _⟩ := hx x m
    exact ⟨t, e⟩
  have hz : us.length ≤ sizeLine := by rw [← rv.length]; exact hlen
  have at_ : (s.heap.push (seqObj "list" us.toArray 0)).get? s.heap.objs.size = some (seqObj "list" us.toArray 0) := Heap.get?_push_size _ rfl
  refine list_sort_ord (s := { s with heap := s.heap.push (seqObj "list" us.toArray 0) }) (swo_lexS fun u => κ (backV u)) at_ hz (fun h2 => ps_sortable (by omega) (fun v hv => ?_) fun o e => ?_) fun out2 hs hb => ⟨rfl, ?_⟩
  · obtain ⟨t, rfl⟩ := e2 v hv
    have hm : V.ref t ∈ out := by rw [e1]; exact List.mem_map.mpr ⟨_, hv, rfl⟩
    obtain ⟨t', e, ht⟩ := hx _ hm
    cases e
    obtain ⟨_, its2, r2, o, ho, hc, n, hd⟩ := I.hok _ _ ht
    obtain ⟨u1, u2, rfl, ri, rj⟩ := vals2 r2
    obtain ⟨t1, rfl⟩ := ri
    obtain ⟨t2, rfl⟩ := rj
    exact ⟨t, o, t1, t2, n, rfl, Heap.get?_push_of_some _ ho, hc, hd⟩
  · have e3 : some o = some (seqObj "list" us.toArray 0) := e.symm.trans at_
    cases e3
    intro c
    exact absurd (Value.type.inj c) (by decide)
  · have h3 : ∀ u ∈ out2, ∃ a, u = Value.ref a := fun u hu => e2 u (hb.perm.mem_iff.mp hu)
    have hp : (out2.map backV).Perm out := by
      rw [e1]
      exact hb.perm.map backV
    obtain ⟨e', he'⟩ := PyProof.Rows.sortedHeap_at (vs := us) (out := out2.toArray) at_
    have hl2 : (out2.map backV).length ≤ sizeLine := by
      rw [hp.length_eq]
      exact hlen
    refine ⟨.ref s.heap.objs.size, upd H2 s.heap.objs.size (.lst (out2.map backV)), I.laid (t' := s.toks) (fun b u e => ?_) (Nat.le_refl _) ⟨hl2, out2, e', vals_back h3, he'⟩, rfl, q _ _ hp (srtd_map hs) (I.hok.fresh (Nat.le_refl _))⟩
    have hb : b < s.heap.objs.size := Heap.lt_size e
    rw [PyProof.Rows.sortedHeap_old (Nat.ne_of_lt hb) (by rw [size_push']; exact Nat.lt_succ_of_lt hb)]
    exact Heap.get?_push_of_some _ e
/-- the pairs of a dict, laid as new tuples -/
theorem pairs_laid {pins : List (Addr × Obj)} {σ : L2.St} {H : Hp} {s : Shared} {h' : Heap} {tk : Nat} {kvs : List (Key × V)} {vs : List (Key × Value)} {as : List Addr} (I : Inv X pins σ H s) (kv : KV kvs vs)
    (hk : ∀ b o, s.heap.get? b = some o → h'.get? b = some o) (hl : as.length = vs.length) (hG : PySem.W.KdxG (mixKind X.prog X.w) vs s.heap.objs.size h' as) :
    ∃ H' : Hp, (∀ b o, H b = some o → H' b = some o) ∧ (∀ t ∈ as, H t = none) ∧ Paired (fun (t : Addr) (q : Key × V) => H' t = some (.tup [kV q.1, q.2])) as kvs ∧ Inv X pins σ H' { s with heap := h', toks := tk } := by
  have lk : kvs.length = vs.length := Paired.length kv
  have nd : as.Nodup := List.Pairwise.imp (fun {a b} (h : a < b) => Nat.ne_of_lt h) hG.rise
  have new : ∀ t ∈ as, H t = none := fun t ht => I.hok.fresh (Nat.le_of_lt (hG.above t ht))
  have atP := LiI.putT_at as kvs H (by omega) nd
  have off : ∀ b, b ∉ as → LiI.putT H as kvs b = H b := fun b h1 => LiI.putT_off as kvs _ h1
  have low : ∀ b o, s.heap.get? b = some o → b ∉ as := fun b o e z => absurd (Heap.lt_size e) (Nat.not_lt.mpr (Nat.le_of_lt (hG.above b z)))
  have kp : ∀ b u, H b = some u → (LiI.putT H as kvs) b = some u := fun b u e => by
    rw [off b (fun z => by rw [new b z] at e; cases e)]
    exact e
  refine ⟨LiI.putT H as kvs, kp, new, atP, ?_⟩
  refine I.call' (ch := []) rfl ⟨fun b o q _ _ _ => hk b o q, fun b o q _ _ _ => ⟨o.slots, hk b o q⟩, fun b o q n _ => ?_, fun b o q _ => ⟨o, hk b o q⟩, fun b xs q => kp b _ q, fun b o u q => kp b _ q, fun b ps q => ⟨#[], by rw [kp b _ q]; simp⟩⟩ (fun b u q => ?_) I.bare fun b z => by simp at z
  · rw [off b (low b o q)]
    exact n
  · by_cases hb : b ∈ as
    · obtain ⟨j, pk, e1, e2, e3⟩ := LiI.paired_ix atP hb
      rw [e3] at q
      cases q
      obtain ⟨key, k, x, f1, f2, f3⟩ := hG.pairs j b e1
      obtain ⟨qv, g1, g2, g3⟩ := LiI.paired_get kv e2
      rw [f1] at g1
      cases g1
      have rk : RelV (kV pk.1) key := by
        rw [g2]
        exact relV_key (show keyIs k key = true from f2)
      exact ⟨by show 2 ≤ sizeLine; decide, [key, x], .cons rk (.cons g3 .nil), ⟨_, f3, rfl, _, rfl⟩⟩
    · rw [off b hb] at q
      exact (I.hok b u q).stay (fun d v _ y => hk d v y) (fun d y => kp d _ y) fun d xs y => kp d _ y
end
section
variable {X : Cx} {e : Expr} {te : TE} {p apos cpos pos : Pos}
def tSrtIt (te : TE) : TE := fun σ H Q => te σ H fun x H1 => ∃ (d : Addr) (ps : List (Str × Int)), x = .ref d ∧ Rd H1 d (.dK (ps.map fun x => ((Sum.inr x.1 : L2.Key), V.int x.2))) ∧
  ∀ (H2 : Hp) (as : List Addr), (∀ b o, H1 b = some o → H2 b = some o) → (∀ t ∈ as, H1 t = none) → Paired (fun (t : Addr) (l : Str × Int) => H2 t = some (.tup [.str l.1, .int l.2])) as ps → cSrtP Q (as.map V.ref) H2
theorem paired_kv {H2 : Hp} : ∀ {as : List Addr} {ps : List (Str × Int)}, Paired (fun (t : Addr) (q : Key × V) => H2 t = some (.tup [kV q.1, q.2])) as (ps.map fun x => ((Sum.inr x.1 : L2.Key), V.int x.2)) → Paired (fun (t : Addr) (l : Str × Int) => H2 t = some (.tup [.str l.1, .int l.2])) as ps
  | [], [], _ => .nil
  | _ :: _, [], h => by cases h
  | [], _ :: _, h => by cases h
  | _ :: _, _ :: _, .cons h r => .cons h (paired_kv r)
/-- sorted(e.items()) -/
theorem pe_srtItems (hc : X.calm = true) (he : PE X e te) (hg : Gl X "sorted") (hm : X.mg "sorted" = none) (hbase : attributeBase e "items" X.env (eval e X.env) = eval e X.env := by rfl) (hline : (apos.endLine == cpos.line) = true := by rfl)
    (hs : starEach [.Call (.Attribute e "items" apos) [] [] cpos] X.env = (false, eval (.Call (.Attribute e "items" apos) [] [] cpos) X.env) :: starEach [] X.env := by rfl) :
    PE X (.Call (.Name "sorted" p) [.Call (.Attribute e "items" apos) [] [] cpos] [] pos) (tSrtIt te) := by
  refine ⟨fun pins s σ H Q I hq => ?_⟩
  refine wpAny_Call_Name_kw (ld_blt (u := .builtin "sorted") I hg hm rfl ?_ (by decide) (by decide))
  rw [hs]
  refine Calls.callWith_builtin rfl (Calls.evalArgs_plain ?_)
  show wpAny _ _ (spliced ((false, eval (.Call (.Attribute e "items" apos) [] [] cpos) X.env) :: backTo pos (starEach [] X.env))) _ _ s
  refine Calls.spliced_cons ?_
  refine wpAny_Call_method (T := "dict") (id := "dict.items") hbase rfl hline F.plainAttrs_dict F.slot_dict_items F.type_dict_items (thn (he.run pins s σ H _ I hq) fun u s1 ⟨x, H1, I1, rx, d, ps, ex, hd, q⟩ => ?_)
  subst ex
  obtain rfl : u = Value.ref d := rx
  obtain ⟨hz, hs0, vs, kv, hdo⟩ := dk_rd I1.hok hd
  obtain ⟨ep, hat⟩ := hdo.dictAt
  have lk := Paired.length kv
  have I2 : Inv X pins σ H1 { s1 with heap := s1.heap.push { cls := .type "dict_items", data := .fields #[.ref d] } } := I1.kept (t' := s1.toks) fun b ob q => Heap.get?_push_of_some _ q
  refine ⟨hdo.typeIs, hdo.mapOf.noDict, ?_⟩
  show wpAny _ _ (callWith cpos (.builtin "dict.items") [.ref d] [] []) _ X.xe s1
  refine method_meetsIn F.slot_dict_items F.entry_dict_items rfl (PySem.evalArgs_none ⟨rfl, hdo.typeIs, F.args_dict_items_1 _, _, meets_dict_items (mixKind X.prog X.w) d hs0, ⟨vs, hdo⟩, ?_⟩)
  refine Calls.spliced_nil ?_
  refine Calls.call_function_entry PyProof.Rows.kind_sorted PyProof.Rows.plain_sorted PyProof.Rows.entry_sorted (PyProof.Rows.args_sorted1 _) ?_
  unfold Builtin.«sorted»
  refine wpAny_bind (m := checkCount "sorted" 1 1 _) (wpAny_pure (wpAny_bind (PySem.W.kdx_collect (knd := mixKind X.prog X.w) (kvs := vs) (ep := ep) (A := X.A.in1) (I1.ok.hd hc) ⟨_, Heap.get?_push_size _ rfl, rfl, rfl⟩ (hat.push _) (by omega) fun h' tk as hk hl hG => ?_)))
  obtain ⟨H2, k1, k2, k3, I3⟩ := pairs_laid (tk := tk) I2 kv hk hl hG
  have zz := q H2 as k1 k2 (paired_kv k3)
  have hal : (as.map V.ref).length ≤ sizeLine := by rw [List.length_map]; omega
  have hus : (as.map Value.ref).length ≤ sizeLine := by rw [List.length_map]; omega
  refine wpAny_bind (wpAny_newList ?_ hus)
  have at_ : (h'.push (seqObj "list" (as.map Value.ref).toArray 0)).get? h'.objs.size = some (seqObj "list" (as.map Value.ref).toArray 0) := Heap.get?_push_size _ rfl
  have z := srtP_tail (s := { s1 with heap := h', toks := tk }) zz I3 (LiI.vals_refs as) hal
  refine wpAny_bind (wpAny_holding (wpAny_call_entry PyProof.Rows.slot_list_sort ⟨_, at_, rfl⟩ PyProof.Rows.entry_list_sort (thn z fun f s4 hf => ?_) (PyProof.Rows.args_list_sort _)))
  obtain ⟨rfl, hEP⟩ := hf
  exact ⟨_, rfl, wpAny_pure ⟨_, rfl, hEP⟩⟩
end
end GZ

set_option Elab.async false
set_option linter.all false
set_option maxRecDepth 100000
set_option maxHeartbeats 3200000
namespace Wr
open PySem PySem.Spec PyProof.Rows L2
/-! ### set(t) of a tuple of texts, and sorted(set(t)) -/
def txOf (e : Int × Value) : Str := match e.2 with
  | .str k _ => k
  | _ => Str.empty
def TxE (w : World) (e : Int × Value) : Prop := ∃ k tk, e.2 = Value.str k tk ∧ e.1 = hashStr w k
/-- the set of texts at a: l its members, each once; it can be walked -/
def SetT (w : World) (h : Heap) (a : Addr) (l : List Str) : Prop := ∃ o es ep t, h.get? a = some o ∧ o.ExactSet ∧ o.data = .set es ep t ∧ (∀ e ∈ es.toList, TxE w e) ∧ (es.toList.map txOf).Perm l ∧ l.Nodup ∧
  l.length < scanBound ∧ t.fits es.size = true ∧ Ris t.place.toList ∧ (w.params.followText "set-order" = true ∨ t.led = true)
theorem SetT.at {w : World} {h h1 : Heap} {a : Addr} {l : List Str} (R : SetT w h a l) (k : ∀ o, h.get? a = some o → h1.get? a = some o) : SetT w h1 a l := let ⟨o, es, ep, t, ho, r⟩ := R; ⟨o, es, ep, t, k o ho, r⟩
theorem tx_elems {P : Program} {w : World} {l : List (Int × Value)} (g : ∀ e ∈ l, TxE w e) : ElemsOf (strKind P w) l := fun e he => let ⟨k, tk, h1, h2⟩ := g e he; ⟨⟨k, by rw [h1]; exact strKind_is .., h2⟩, by rw [h1]; rfl⟩
theorem tx_is {P : Program} {w : World} {e : Int × Value} (g : TxE w e) (k : Str) : (strKind P w).is k e.2 = true ↔ txOf e = k := by
  obtain ⟨k0, tk, h1, _⟩ := g
  unfold txOf
  rw [h1]
  show ((k0 == k) = true) ↔ k0 = k
  exact beq_iff_eq
theorem tx_mem {P : Program} {w : World} {l : List (Int × Value)} (g : ∀ e ∈ l, TxE w e) (k : Str) : k ∈ l.map txOf ↔ ∃ e ∈ l, (strKind P w).is k e.2 = true := by
  rw [List.mem_map]
  exact ⟨fun ⟨e, he, q⟩ => ⟨e, he, (tx_is (g e he) k).2 q⟩, fun ⟨e, he, q⟩ => ⟨e, he, (tx_is (g e he) k).1 q⟩⟩
section
variable {P : Program} {w : World} {A : Around} {E : Value → Shared → Prop} {s : Shared} {a : Addr} {l : List Str}
theorem tx_tail {gv : Bool → Sem Unit} (hgv : ∀ (b : Bool) (s1 : Shared) (Q1 : Unit → Shared → Prop), Q1 () s1 → wpAny (model P w) A (gv b) Q1 E s1) {o : Obj} {es : Array (Int × Value)} {ep : Nat} {t : SetTable} (ho : s.heap.get? a = some o) (hex : o.ExactSet) (hd : o.data = .set es ep t)
    {es1 : Array (Int × Value)} {t2 : SetTable} (g1 : ∀ e ∈ es1.toList, TxE w e) (pl : (es1.toList.map txOf).Perm l) (nd : l.Nodup) (hb : l.length < scanBound) (hf2 : t2.fits es1.size = true) (hr : Ris t2.place.toList) (hl : w.params.followText "set-order" = true ∨ t2.led = true)
    {dum : Bool} {R : Option Bool → Shared → Prop} (hR : ∀ h1, Heap.SameBut a s.heap h1 → SetT w h1 a l → R (some true) { s with heap := h1 }) :
    wpAny (model P w) A (do
        storeSet a es1 t2
        if (!dum && t2.tooFull) = true then do
            gv (relayAll t2 es1 (SetTable.grown es1.size)).2.2; storeSet a (relayAll t2 es1 (SetTable.grown es1.size)).1 (relayAll t2 es1 (SetTable.grown es1.size)).2.1; pure (some true)
          else pure (some true)) R E s := by
  have sz1 : es1.size = l.length := by rw [← Array.length_toList, ← List.length_map (f := txOf), pl.length_eq]
  have hb1 : es1.size < scanBound := by rw [sz1]; exact hb
  refine wpAny_bind (wpAny_storeSet_of ho hd ?_ (fits_of_scanBound hb1))
  have ho1 := store_at (es' := es1) (t' := t2) ho hd
  have sb1 := Heap.SameBut.update s.heap a (Obj.putSet es1 t2)
  split
  · have pm := relayAll_perm t2 es1 (SetTable.grown es1.size); have hf3 := relayAll_fits t2 es1 (SetTable.grown es1.size); have hr3 := relayAll_ris t2 es1 (SetTable.grown es1.size); have hl3 := relayAll_led t2 es1 (SetTable.grown es1.size)
    generalize relayAll t2 es1 (SetTable.grown es1.size) = Zz at pm hf3 hr3 hl3 ⊢
    obtain ⟨es2, t3, gave⟩ := Zz; dsimp only at pm hf3 hr3 hl3 ⊢
    have hsz : es2.size = es1.size := by rw [← Array.length_toList, pm.length_eq, Array.length_toList]
    refine wpAny_bind (hgv _ _ _ (wpAny_bind (wpAny_storeSet_of ho1 rfl ?_ (fits_of_scanBound (by rw [hsz]; exact hb1)))))
    refine wpAny_pure (hR _ (sb1.trans (Heap.SameBut.update _ a _)) ⟨_, es2, _, t3, store_at (es' := es2) (t' := t3) ho1 rfl, hex, rfl, fun e he => g1 e (pm.mem_iff.mp he), (pm.map txOf).trans pl, nd, hb, hf3, hr3, hl.imp id fun z => by rw [hl3]; exact z⟩)
  · exact wpAny_pure (hR _ sb1 ⟨_, es1, _, t2, ho1, hex, rfl, g1, pl, nd, hb, hf2, hr, hl⟩)
def addTx (l : List Str) (k : Str) : List Str := if k ∈ l then l else l ++ [k]
theorem tx_add {k : Str} {tk : Tok} {Q : Bool → Shared → Prop} (R : SetT w s.heap a l) (room : l.length + 1 < scanBound) (hQ : ∀ b h1, Heap.SameBut a s.heap h1 → SetT w h1 a (addTx l k) → Q b { s with heap := h1 }) :
    wpAny (model P w) A (setAddHashed a (.str k tk) ((strKind P w).hash k)) Q E s := by
  obtain ⟨o, es, ep, t, ho, hex, hd, g, pl, nd, hb, hf, hr, hl⟩ := R
  have sz1 : es.size = l.length := by rw [← Array.length_toList, ← List.length_map (f := txOf), pl.length_eq]
  have hbe : es.size < scanBound := by rw [sz1]; exact hb
  have hkey : (strKind P w).is k (.str k tk) = true := strKind_is ..
  have hsc : (Value.str k tk).scannable = true := rfl
  have hel : ElemsOf (strKind P w) es.toList := tx_elems g
  unfold setAddHashed setAddHashedIn
  refine wpAny_holding (wpAny_bind (wpAny_setState_of ho hd hf ?_)); dsimp only
  rw [byScan_of hsc hbe hel]; simp only [↓reduceIte]
  unfold setAddByScan
  refine wpAny_bind (wpAny_bind (wpAny_rule (wpAny_bind (wpAny_setScan_of hkey ho hd hf hel ?_))))
  cases hfi : List.findIdx? (fun e => (strKind P w).is k e.2) es.toList with
  | some j =>
    dsimp only
    obtain ⟨hj, pj, _⟩ := List.findIdx?_eq_some_iff_getElem.mp hfi
    have hk : k ∈ l := pl.mem_iff.mp ((tx_mem (P := P) (w := w) g k).2 ⟨es.toList[j], List.getElem_mem hj, pj⟩)
    refine wpAny_pure (wpAny_pure (hQ _ s.heap (Heap.SameBut.refl a s.heap) ⟨o, es, ep, t, ho, hex, hd, g, ?_, ?_, ?_, hf, hr, hl⟩)) <;> (unfold addTx; rw [if_pos hk]; assumption)
  | none =>
    dsimp only
    have hnk : k ∉ l := fun z => by
      obtain ⟨e, he, q⟩ := (tx_mem (P := P) (w := w) g k).1 (pl.mem_iff.mpr z)
      have c := List.findIdx?_eq_none_iff.mp hfi e he
      rw [q] at c
      cases c
    have hgw : ∀ (b : Bool) {s1 : Shared} {Q1 : Unit → Shared → Prop}, Q1 () s1 → wpAny (model P w) A (match b with | true => rule "set.scan.the-table-gave-way" | false => pure ()) Q1 E s1 := fun b s1 Q1 q => by cases b <;> first | exact wpAny_pure q | exact wpAny_rule q
    have pm := layNew_perm t es ((strKind P w).hash k) (.str k tk); have hf1 := layNew_fits t es ((strKind P w).hash k) (.str k tk); have hr1 := layNew_ris t es ((strKind P w).hash k) (.str k tk) hr; have hl1 := layNew_led t es ((strKind P w).hash k) (.str k tk)
    generalize layNew t es ((strKind P w).hash k) (.str k tk) = Zz at pm hf1 hr1 hl1 ⊢
    obtain ⟨es1, t1, dum, gave⟩ := Zz; dsimp only at pm hf1 hr1 hl1 ⊢
    rw [Array.toList_push] at pm
    have pk : (es1.toList.map txOf).Perm (l ++ [k]) := by
      have z := pm.map txOf
      rw [List.map_append] at z
      exact z.trans (pl.append_right _)
    have g1 : ∀ e ∈ es1.toList, TxE w e := fun e he => by
      rcases List.mem_append.mp (pm.mem_iff.mp he) with z | z
      · exact g e z
      · rw [List.mem_singleton.mp z]
        exact ⟨k, tk, rfl, rfl⟩
    have nd1 : (l ++ [k]).Nodup := List.nodup_append.mpr ⟨nd, List.nodup_cons.mpr ⟨by simp, List.nodup_nil⟩, fun x hx y hy e => hnk (by rw [← List.mem_singleton.mp hy, ← e]; exact hx)⟩
    have hb1 : (l ++ [k]).length < scanBound := by rw [List.length_append]; exact room
    have hled : w.params.followText "set-order" = true ∨ t1.led = true := hl.imp id fun z => by rw [hl1]; exact z
    have fin : ∀ h1, Heap.SameBut a s.heap h1 → SetT w h1 a (l ++ [k]) → Q true { s with heap := h1 } := fun h1 sb r => hQ true h1 sb (by unfold addTx; rw [if_neg hnk]; exact r)
    refine wpAny_bind (hgw _ ?_)
    split
    · refine wpAny_bind ?_
      rw [hashByValue_scannable 8 hsc]
      refine wpAny_pure (tx_tail ?_ ho hex hd g1 pk nd1 hb1 ?_ ?_ ?_ ?_)
      · intro b s1 Q1 q; cases b <;> first | exact wpAny_pure q | exact wpAny_rule q
      · first | (split <;> first | exact hf1 | exact SetTable.fits_plain_off hf1) | exact hf1
      · first | (split <;> exact hr1) | exact hr1
      · first | (split <;> exact hled) | exact hled
      · intro h1 sb r; dsimp only; exact wpAny_pure (fin h1 sb r)
    · refine wpAny_bind (wpAny_pure ?_); simp only [↓reduceIte]
      refine tx_tail ?_ ho hex hd g1 pk nd1 hb1 hf1 hr1 hled ?_
      · intro b s1 Q1 q; cases b <;> first | exact wpAny_pure q | exact wpAny_rule q
      · intro h1 sb r; dsimp only; exact wpAny_pure (fin h1 sb r)
end
/-- the members of a list, each once, as they are met -/
def onceL : List Str → List Str → List Str
  | acc, [] => acc
  | acc, x :: r => onceL (addTx acc x) r
theorem addTx_len (l : List Str) (k : Str) : (addTx l k).length ≤ l.length + 1 := by
  unfold addTx
  split
  · omega
  · rw [List.length_append]; exact Nat.le_refl _
theorem addTx_nd {l : List Str} {k : Str} (h : l.Nodup) : (addTx l k).Nodup := by
  unfold addTx
  split
  · exact h
  · rename_i hk
    exact List.nodup_append.mpr ⟨h, List.nodup_cons.mpr ⟨by simp, List.nodup_nil⟩, fun x hx y hy e => hk (by rw [← List.mem_singleton.mp hy, ← e]; exact hx)⟩
theorem addTx_mem {l : List Str} {k x : Str} : x ∈ addTx l k ↔ x ∈ l ∨ x = k := by
  unfold addTx
  split
  · rename_i hk
    exact ⟨.inl, fun z => z.elim id fun z => by rw [z]; exact hk⟩
  · rw [List.mem_append, List.mem_singleton]
theorem onceL_spec : ∀ (xs acc : List Str), acc.Nodup → (onceL acc xs).Nodup ∧ (∀ x, x ∈ onceL acc xs ↔ x ∈ acc ∨ x ∈ xs) ∧ (onceL acc xs).length ≤ acc.length + xs.length
  | [], acc, h => ⟨h, fun x => by simp [onceL], by simp [onceL]⟩
  | y :: r, acc, h => by
    obtain ⟨h1, h2, h3⟩ := onceL_spec r (addTx acc y) (addTx_nd h)
    have h4 := addTx_len acc y
    refine ⟨h1, fun x => ?_, ?_⟩
    · rw [onceL, h2, addTx_mem, List.mem_cons, or_assoc]
    · rw [onceL, List.length_cons]; omega
theorem onceL_snoc : ∀ (xs acc : List Str) (y : Str), onceL acc (xs ++ [y]) = addTx (onceL acc xs) y
  | [], _, _ => rfl
  | x :: r, acc, y => onceL_snoc r (addTx acc x) y
section
variable {pr : Program} {w : World} {A : Around} {R : Result → Shared → Prop} {J : Addr} {fp wr : List Addr} {Gn : Array GenState → Array GenState → Prop} {n : Nat} {Py : Nat → Value → Prop} {St : Nat → Shared → Prop}
theorem tx_fill (W : WalksS pr w A.in1 J fp wr Gn n Py St) (D : Addr) (hD : D ∉ fp) (xs : List Str) (hn : n = xs.length) (hf : ∀ i v, Py i v → ∃ k tk, xs[i]? = some k ∧ v = .str k tk) (hb : xs.length + 1 < scanBound) :
    ∀ (m i : Nat) (s : Shared), n - i = m → i ≤ n → St i s → SetT w s.heap D (onceL [] (xs.take i)) → (∀ s1, Moved (D :: wr) Gn s s1 → SetT w s1.heap D (onceL [] xs) → R (.ok (.ret .none)) s1) →
      codeAny (model pr w) A (.builtin "set.update.loop" ⟨[.ref D, .ref J], []⟩) R s := by
  have nw : D ∉ wr := fun z => hD (W.sub _ z)
  have up : ∀ b ∈ wr, b ∈ D :: wr := fun b z => List.mem_cons_of_mem _ z
  intro m
  induction m with
  | zero =>
    intro i s e0 hi hst hS hR
    obtain rfl : i = n := by omega
    refine codeAny_builtin PyProof.Rows.F.entry_set_update_loop ?_; rw [Around.under_plainId PyProof.Rows.F.plain_set_update_loop _]
    show wpAny _ A.in1 (pyNext (.ref J) >>= _) _ _ s
    refine wpAny_bind (W.done s _ _ hst fun s1 mv => ?_)
    show wpAny _ A.in1 (ret Value.none) _ _ s1
    rw [hn, List.take_length] at hS
    exact wpAny_pure (hR s1 (mv.mono up) (hS.at fun o e => mv.heap D o nw e))
  | succ m ih =>
    intro i s e0 hi hst hS hR
    have lt : i < n := by omega
    refine codeAny_builtin PyProof.Rows.F.entry_set_update_loop ?_; rw [Around.under_plainId PyProof.Rows.F.plain_set_update_loop _]
    show wpAny _ A.in1 (pyNext (.ref J) >>= _) _ _ s
    refine wpAny_bind (W.item i s _ _ lt hst fun v s1 hv st1 mv => ?_)
    obtain ⟨k, tk, hk, rfl⟩ := hf i v hv
    have hS1 : SetT w s1.heap D (onceL [] (xs.take i)) := hS.at fun o e => mv.heap D o nw e
    show wpAny _ A.in1 (holding [Value.str k tk] (setAdd D (.str k tk)) >>= _) _ _ s1
    refine wpAny_bind (wpAny_holding ?_)
    unfold setAdd
    refine wpAny_holding (wpAny_bind ((strKind pr w).pyHash (k := k) (strKind_is ..) ?_))
    have small := (onceL_spec (xs.take i) [] List.nodup_nil).2.2
    rw [List.length_take] at small
    refine tx_add (s := { s1 with toks := s1.toks + 1 }) hS1 (by have : ([] : List Str).length = 0 := rfl; omega) fun b h2 sb hS2 => ?_
    have e3 : addTx (onceL [] (xs.take i)) k = onceL [] (xs.take (i + 1)) := by
      rw [List.take_succ, hk]
      exact (onceL_snoc _ _ _).symm
    rw [e3] at hS2
    refine wpAny_pure ⟨plainId_quiet PyProof.Rows.F.plain_set_update_loop _, ih (i + 1) _ (by omega) lt (W.frame _ s1 _ _ st1 (Nat.le_succ _) fun b hb o e => ?_) hS2 fun s9 mv9 hS9 => ?_⟩
    · rw [sb.2 b fun z : b = D => hD (z ▸ hb)]
      exact e
    · refine hR s9 (Moved.trans W.gtrans ((mv.mono up).then_heap (Nat.le_succ _) fun b o hb e => ?_) mv9) hS9
      rw [sb.2 b fun z : b = D => hb (by rw [z]; exact List.mem_cons_self)]
      exact e
end
section
variable {pr : Program} {w : World} {A : Around} {E : Value → Shared → Prop} {s : Shared}
/-- the empty set as it is made -/
abbrev setN (w : World) : Obj := { cls := .type "set", dict := none, data := .set #[] 0 (.fresh 0 0 (!w.params.followText "set-order")) }
theorem setN_at {h : Heap} {a : Addr} (ho : h.get? a = some (setN w)) : SetT w h a [] := by
  refine ⟨_, #[], 0, _, ho, ⟨rfl, rfl, rfl⟩, rfl, fun e he => by simp at he, .refl _, List.nodup_nil, by decide, by rfl, List.Pairwise.nil, ?_⟩
  show _ ∨ (!w.params.followText "set-order") = true
  cases w.params.followText "set-order" with
  | false => exact .inr rfl
  | true => exact .inl rfl
theorem set_callT {l : Addr} {its : Array Value} {Q : Value → Shared → Prop} (xs : List Str) (hh : A.handled = none) (hl : s.heap.IsTuple l its) (hf : ∀ (i : Nat) (v : Value), its[i]? = some v → ∃ k tk, xs[i]? = some k ∧ v = .str k tk) (hn : its.size = xs.length) (hb : xs.length + 1 < scanBound)
    (h : ∀ (h2 : Heap) (tk : Nat), SetT w h2 s.heap.objs.size (onceL [] xs) → (∀ b o, s.heap.get? b = some o → h2.get? b = some o) → Q (.ref s.heap.objs.size) { s with heap := h2, toks := tk }) :
    wpAny (model pr w) A (call (.type "set") [.ref l]) Q E s := by
  obtain ⟨c0, tl, q0⟩ := PySem.F.called_set.mro
  have q1 := PySem.F.called_set.made
  have q2 := PySem.F.called_set.sub
  refine wpAny_call (codeAny_of_tree ?_)
  show wpAny _ _ (callAny (.type "set") _) _ _ _
  refine wpAny_pure ⟨Code.quiet_builtin _ (by decide +kernel), codeAny_builtin PySem.F.entry_type_call ?_⟩; rw [Around.under_plain (weight_type_call_type "set" [.ref l] []) rfl]
  have q3 := PySem.F.called_set.notType
  have q4 := PySem.F.called_set.canCreate
  have q5 := PySem.F.typeCall_set_1 (.ref l)
  repeat (any_goals (first | assumption | wp_step))
  refine codeAny_mono (code_set_led1 (.ref l) (E := E) (Q₁ := fun ob s1 => ob = .ref s.heap.objs.size ∧ s1 = { s with heap := s.heap.push (setN w) }) ⟨rfl, rfl⟩) fun r s1 hr => ?_
  cases r with
  | error e => exact hr
  | ok fl =>
    cases fl with
    | ret ob =>
      obtain ⟨rfl, rfl⟩ := hr
      have g0 : (s.heap.push (setN w)).get? s.heap.objs.size = some (setN w) := Heap.get?_push_size _ rfl
      have ty : Shared.TypeIs { s with heap := s.heap.push (setN w) } (.ref s.heap.objs.size) "set" := ⟨_, g0, rfl⟩
      have q6 := PySem.F.called_set.init.lookup
      have q7 := PySem.F.called_set.init.bind (.ref s.heap.objs.size)
      repeat (any_goals (first | assumption | wp_step))
      refine codeAny_mono (codeAny_call_builtin (R := wants (fun r s2 => r = .none ∧ ∃ h2 tk, s2 = { s with heap := h2, toks := tk } ∧ SetT w h2 s.heap.objs.size (onceL [] xs) ∧ (∀ b o, s.heap.get? b = some o → h2.get? b = some o)) E) PySem.F.called_set.init.plain PySem.F.entry_set_init (check_set_init_1 ty ?_)) fun r2 s2 hr2 => ?_
      · obtain ⟨ol, go, cl, nl, dl⟩ := hl
        obtain ⟨ocls, odict, odata, oslots⟩ := ol
        simp only at cl dl
        subst cl; subst dl
        have go2 : (s.heap.push (setN w)).get? l = some { cls := .type "tuple", dict := odict, data := .seq its nl, slots := oslots } := Heap.get?_push_of_some _ go
        have q8 := PySem.F.sub_tuple_set
        have q9 := PySem.F.sub_tuple_frozenset
        have nd : (Value.type "tuple" == Value.type "dict") = false := by decide
        have hl1 : (s.heap.push (setN w)).IsTuple l its := ⟨_, go2, rfl, nl, rfl⟩
        unfold Builtin.«set.__init__» noKeywords Builtin.Frozenset.updateFrom
        generalize hPI : pyIter = PI
        wp_walk
        subst hPI
        refine wpAny_pyIter_tuple hl1 (wpAny_bind (wpAny_runValue ?_))
        have ll : l < s.heap.objs.size := Heap.lt_size go
        have h3 : A.in1.in1.in1.handled = none := by simp [hh]
        have nI : l ≠ (s.heap.push (setN w)).objs.size := by rw [Heap.size_push]; exact Nat.ne_of_lt (Nat.lt_succ_of_lt ll)
        have nf : s.heap.objs.size ∉ [(s.heap.push (setN w)).objs.size, l] := by
          rw [Heap.size_push]
          intro y
          rcases List.mem_cons.mp y with y | y
          · exact Nat.ne_of_lt (Nat.lt_succ_self _) y
          · exact Nat.ne_of_gt ll (List.mem_singleton.mp y)
        refine tx_fill ((Walks.tuple h3 _ l nI its).toS) s.heap.objs.size nf xs hn hf hb (its.size - 0) 0 _ (by omega) (Nat.zero_le _) ⟨⟨_, Heap.get?_push_size _ rfl, rfl, rfl⟩, (hl1.push _)⟩ ?z0 ?zR
        case z0 =>
          have gg : ((s.heap.push (setN w)).push { cls := .type "tuple_iterator", data := .fields #[.ref l, .int 0 0] }).get? s.heap.objs.size = some (setN w) := Heap.get?_push_of_some _ g0
          exact setN_at gg
        case zR =>
          intro s9 mv hS9
          obtain ⟨h9, g9, d9, t9, o9⟩ := s9
          have e1 : g9 = s.gens := mv.gens
          have e2 : d9 = s.drawn := mv.drawn
          have e3 : o9 = s.os := mv.os
          subst e1; subst e2; subst e3
          show wpAny _ _ _ _ _ _
          refine wpAny_pure ?_
          show wpAny _ _ (ret Value.none) _ _ _
          refine wpAny_pure ⟨rfl, h9, t9, rfl, hS9, fun b o e => ?_⟩
          have hb := Heap.lt_size e
          refine mv.heap b o (fun y => ?_) (Heap.get?_push_of_some _ (Heap.get?_push_of_some _ e))
          rcases List.mem_cons.mp y with y | y
          · exact Nat.ne_of_lt hb y
          · rw [List.mem_singleton.mp y, Heap.size_push] at hb
            exact Nat.lt_irrefl _ (Nat.lt_of_lt_of_le hb (Nat.le_succ _))
      · cases r2 with
        | error e => exact hr2
        | ok f2 =>
          cases f2 with
          | ret r =>
            obtain ⟨rfl, h2, tk, rfl, hS, hk⟩ := hr2
            repeat (any_goals (first | assumption | wp_step))
            exact h _ _ hS hk
          | _ => exact hr2.elim
    | _ => exact hr.elim
end
end Wr

set_option Elab.async false
set_option linter.all false
set_option maxRecDepth 100000
set_option maxHeartbeats 3200000
namespace Wr
open PySem PySem.Spec PyProof.Rows L2
/-! ### set(t) of a tuple of texts, and sorted(set(t)) -/
/-- tuple(x) of a list or a tuple, told for a block -/
def rTupL (K : PySem.W.Frag) : List V → Hp → VK → Prop := fun xs H Q => ∃ p ys, xs = [.ref p] ∧ ((SqL K H p ys ∧ ∀ l, H l = none → Q (.ref l) (upd H l (.tup ys))) ∨ (SqT K H p ys ∧ Q (.ref p) H))
def rdS (v : Value) : Str := match v with
  | .str k _ => k
  | _ => Str.empty
theorem isTuple_of {h : Heap} {a : Addr} {its : Array Value} (z : IsTup h a its) : h.IsTuple a its := let ⟨o, e, c, n, d⟩ := z; ⟨o, e, c, n, d⟩
def tSrtSet (K : PySem.W.Frag) (ta : TE) : TE := fun σ H Q => ta σ H fun x H1 => ∃ (l : Addr) (xs : List Str), x = .ref l ∧ SqT K H1 l (xs.map V.str) ∧ xs.length ≤ 1000 ∧ (onceL [] xs).length < 64 ∧ ∀ (ys : List Str) (p : Addr), ys.Perm (onceL [] xs) → sortedS ys = true → H1 p = none → Q (.ref p) (upd H1 p (.lst (ys.map V.str)))
theorem pe_srtSet {X : Cx} {a : Expr} {ta : TE} {p1 p2 p3 p4 : Pos} (hc : X.calm = true) (hg : Gl X "sorted") (hm : X.mg "sorted" = none) (hg2 : Gl X "set") (hm2 : X.mg "set" = none) (ha : PE X a ta)
    (na : starEach [a] X.env = (false, eval a X.env) :: starEach [] X.env := by rfl) : PE X (.Call (.Name "sorted" p1) [.Call (.Name "set" p2) [a] [] p3] [] p4) (tSrtSet X.K ta) := by
  refine ⟨fun pins s σ H Q I h => ?_⟩
  refine Call_ (ld_blt I hg hm (u := .builtin "sorted") rfl (PyProof.Rows.callWith_builtin1 (PyProof.Rows.args_cons ?_ rfl) rfl rfl))
  refine Call_ (ld_blt I hg2 hm2 boot_set (PyProof.Rows.callWith_type1 (PyProof.Rows.args_cons (thn (ha.run pins s σ H _ I h) fun v s1 ⟨x, H1, I1, r1, q1⟩ => PyProof.Rows.args_nil ?_) na) na rfl))
  obtain ⟨l, xs, rfl, hq, hlen, h64, q1⟩ := q1
  cases r1
  obtain ⟨its, r, pl, _⟩ := I1.tuple hq
  have e0 : its.toArray.size = xs.length := by rw [List.size_toArray, ← r.length, List.length_map]
  have at_ : ∀ (i : Nat) (v : Value), its.toArray[i]? = some v → ∃ k tk, xs[i]? = some k ∧ v = .str k tk := fun i v hv => by
    have hi : i < its.toArray.size := by
      obtain ⟨hi, _⟩ := Array.getElem?_eq_some_iff.mp hv
      exact hi
    rw [e0] at hi
    have g : (xs.map V.str)[i]? = some (.str xs[i]) := by rw [List.getElem?_map, List.getElem?_eq_getElem hi]; rfl
    obtain ⟨u, hu, t, rfl⟩ := r.get g
    have hv2 : its[i]? = some v := by simpa using hv
    rw [hu] at hv2
    cases hv2
    exact ⟨_, _, List.getElem?_eq_getElem hi, rfl⟩
  refine set_callT xs (I1.ok.hd hc) (isTuple_of pl) at_ e0 (by unfold scanBound; omega) fun h2 tk hS hk => ?_
  refine PyProof.Rows.args_nil ?_
  obtain ⟨o, es, ep, t, ho, hex, hd, g, pm, nd, hb, hf, hr, hl⟩ := hS
  have sz1 : es.size = (onceL [] xs).length := by rw [← Array.length_toList, ← List.length_map (f := txOf), pm.length_eq]
  have small2 : es.size < 64 := by omega
  have I2 : Inv X pins σ H1 { s1 with heap := h2, toks := tk } := I1.kept fun b o e => hk b o e
  refine Calls.call_function_entry PyProof.Rows.kind_sorted PyProof.Rows.plain_sorted PyProof.Rows.entry_sorted (PyProof.Rows.args_sorted1 _) ?_
  unfold Builtin.«sorted»
  refine wpAny_bind (m := checkCount "sorted" 1 1 _) (wpAny_pure (wpAny_bind (collect_set (A := X.A.in1) (I1.ok.hd hc) ⟨o, ho, hex.1, hd⟩ hf (by unfold scanBound; omega) hr hl fun s3 vs k3 z3 g3 o3 pm3 => ?_)))
  have vl : vs.length = es.size := by rw [pm3.length_eq, List.length_map, Array.length_toList]
  have hS : StrsAre vs (vs.map rdS) := strs_at (by rw [List.length_map]) fun j v e => by
    obtain ⟨e9, he9, q9⟩ := List.mem_map.mp (pm3.mem_iff.mp (List.mem_of_getElem? e))
    obtain ⟨k, tk9, h9, _⟩ := g e9 he9
    refine ⟨k, tk9, ?_, by rw [← q9]; exact h9⟩
    rw [List.getElem?_map, e, ← q9, h9]
    rfl
  have pk : (vs.map rdS).Perm (onceL [] xs) := by
    have q := pm3.map rdS
    rw [List.map_map] at q
    exact q.trans pm
  refine wpAny_bind (wpAny_newList ?_ (by rw [vl]; exact sz (by omega)))
  have at9 : (s3.heap.push (seqObj "list" vs.toArray 0)).get? s3.heap.objs.size = some (seqObj "list" vs.toArray 0) := Heap.get?_push_size _ rfl
  refine wpAny_bind (wpAny_holding (wpAny_call_entry PyProof.Rows.slot_list_sort ⟨_, at9, rfl⟩ PyProof.Rows.entry_list_sort (list_sort_treeK strKind_oneLt (s := { s3 with heap := s3.heap.push (seqObj "list" vs.toArray 0) }) at9 hS.keysOf (fun v₁ v₂ rest e => keyKind_strs (by rw [← e]; exact hS)) (by rw [vl]; exact small2) fun st9 hp hs => ⟨_, rfl, ?_⟩) (PyProof.Rows.args_list_sort _)))
  obtain ⟨ys, g1, g2, g4⟩ := sorted_out_str hS hp hs
  obtain ⟨e9, he9⟩ := PyProof.Rows.sortedHeap_at (vs := vs) (out := (arrOf st9).map (·.2)) at9
  have hlen2 : (ys.map V.str).length ≤ sizeLine := by
    rw [List.length_map, g2.length_eq, List.length_map, vl]
    exact sz (by omega)
  have kF : ∀ b u, h2.get? b = some u → (sortedHeap (s3.heap.push (seqObj "list" vs.toArray 0)) s3.heap.objs.size vs ((arrOf st9).map (·.2))).get? b = some u := fun b u e => by
    have q := k3 b u e
    have hb := Heap.lt_size q
    rw [PyProof.Rows.sortedHeap_old (Nat.ne_of_lt hb) (by rw [size_push']; exact Nat.lt_succ_of_lt hb)]
    exact Heap.get?_push_of_some _ q
  refine wpAny_pure ⟨_, rfl, ?_⟩
  have hn : H1 s3.heap.objs.size = none := I2.hok.fresh z3
  generalize hF : sortedHeap (s3.heap.push (seqObj "list" vs.toArray 0)) s3.heap.objs.size vs ((arrOf st9).map (·.2)) = HF at kF he9
  have J : Inv X pins σ (upd H1 s3.heap.objs.size (.lst (ys.map V.str))) { s1 with heap := HF, gens := s3.gens, drawn := s3.drawn, toks := s3.toks } :=
    Inv.call (s := { s1 with heap := h2, toks := tk }) I2 (ch := []) (Un.laid kF z3 hn) (I2.hok.laid kF z3 ⟨hlen2, ((arrOf st9).map (·.2)).toList, e9, vals_of_strs g1, by rw [Array.toArray_toList]; exact he9⟩) (by rw [g3]; exact I2.bare) (fun _ z => nomatch z)
  have e5 : ({ s3 with heap := HF } : Shared) = { s1 with heap := HF, gens := s3.gens, drawn := s3.drawn, toks := s3.toks } := by
    cases s3
    cases s1
    cases o3
    rfl
  rw [e5]
  exact ⟨.ref _, _, J, rfl, q1 ys _ (g2.trans pk) g4 hn⟩
end Wr

set_option Elab.async false
set_option linter.all false
set_option maxRecDepth 100000
set_option maxHeartbeats 2000000
namespace Wr
open PySem PySem.Spec PyProof.Rows L2
/-! ### a text in a tuple of any data; data of any depth against shallow data -/
section
variable {X : Cx}
def rInTx (K : PySem.W.Frag) : R2 := fun x y H Q => ∃ (z : Str) (ds : List PyData), x = .str z ∧ Dp K H y (.tuple ds) ∧ PyData.strOk z = true ∧ PyData.canLayAll0 ds = true ∧ Q (.bl (ds.any fun d => PyData.eqv d (.str z))) H
theorem op_inTx (hu : X.A.units + 64 < cLine) : OpR X (compareOp .In) (rInTx X.K) := by
  intro pins s σ H x y v u Q I rx ry h
  obtain ⟨z, ds, rfl, he, sz, se, q⟩ := h
  obtain ⟨as, r1⟩ := Dp.reads I (.str z) (.str z) v (.str z) rx
  obtain ⟨bs, r2⟩ := Dp.reads I (.tuple ds) y u he ry
  have m0 : min (PyData.depthAll ds) (PyData.str z).depth ≤ 0 := by
    have e : (PyData.str z).depth = 0 := by simp [PyData.depth]
    rw [e]
    exact Nat.min_le_right _ _
  exact SeqAt.in_tuple_reads r2 r1 se (by simp [PyData.canLay0, sz]) (by omega) ⟨.bl _, H, I, rfl, q⟩
def rEqM (K : PySem.W.Frag) : R2 := fun x y H Q => ∃ d e, Dp K H x d ∧ Dp K H y e ∧ d.canLay0 = true ∧ e.canLay0 = true ∧ e.depth ≤ 60 ∧ Q (.bl (PyData.eqv d e)) H
def rNeM (K : PySem.W.Frag) : R2 := fun x y H Q => ∃ d e, Dp K H x d ∧ Dp K H y e ∧ d.canLay0 = true ∧ e.canLay0 = true ∧ e.depth ≤ 60 ∧ Q (.bl (!PyData.eqv d e)) H
theorem op_eqM (hu : X.A.units + 64 < cLine) : OpR X (compareOp .Eq) (rEqM X.K) := by
  intro pins s σ H x y v u Q I rx ry h
  obtain ⟨d, e, hd, he, sd, se, dp, q⟩ := h
  obtain ⟨as, r1⟩ := Dp.reads I d x v hd rx
  obtain ⟨bs, r2⟩ := Dp.reads I e y u he ry
  have m0 : min d.depth e.depth ≤ e.depth := Nat.min_le_right _ _
  exact SeqAt.compareEq_reads r1 r2 sd se (by omega) ⟨.bl _, H, I, rfl, q⟩
theorem op_neM (hu : X.A.units + 64 < cLine) : OpR X (compareOp .NotEq) (rNeM X.K) := by
  intro pins s σ H x y v u Q I rx ry h
  obtain ⟨d, e, hd, he, sd, se, dp, q⟩ := h
  obtain ⟨as, r1⟩ := Dp.reads I d x v hd rx
  obtain ⟨bs, r2⟩ := Dp.reads I e y u he ry
  have m0 : min d.depth e.depth ≤ e.depth := Nat.min_le_right _ _
  exact SeqAt.compareNe_reads r1 r2 sd se (by omega) ⟨.bl _, H, I, rfl, q⟩
end
end Wr

set_option Elab.async false
set_option linter.all false
set_option maxRecDepth 100000
set_option maxHeartbeats 4000000
namespace Wr
open PySem PySem.Spec PyProof.Rows L2
/-! ### tuple * int, for 0 and 1 too -/
theorem tuple_mul1 (l : Addr) (its : Array Value) (n : Nat) (dd : Option Addr) (sl : Array (Option Value)) (u : Tok) :
    Meets (Builtin.«tuple.__mul__» ⟨[.ref l, .int 1 u], []⟩) (fun _ R s => s.heap.get? l = some { cls := .type "tuple", dict := dd, data := .seq its n, slots := sl } ∧ R (.ok (.ret (Value.ref l))) s) :=
  .of_wp fun prog w A R s h => by
    obtain ⟨hp, g, d, tk, os⟩ := s
    obtain ⟨hl, h⟩ := h
    have f1 := AutoSeq1.idx_int
    wp_walk using wpAny_loadPart' hl
    repeat (first
      | (refine wpAny_ite_false (decide_eq_false (by decide)) ?_; wp_walk using wpAny_loadPart' hl)
      | (refine wpAny_ite_true (decide_eq_true (by simp)) ?_; wp_walk using wpAny_loadPart' hl))
    exact ⟨_, rfl, h⟩
theorem tuple_mul0 (l : Addr) (its : Array Value) (n : Nat) (dd : Option Addr) (sl : Array (Option Value)) (u : Tok) (hi : its.isEmpty = false) :
    Meets (Builtin.«tuple.__mul__» ⟨[.ref l, .int 0 u], []⟩) (fun _ R s => s.heap.get? l = some { cls := .type "tuple", dict := dd, data := .seq its n, slots := sl } ∧
      R (.ok (.ret (Value.ref s.heap.objs.size))) { s with heap := s.heap.push { cls := Value.type "tuple", data := Data.seq #[] }, toks := s.toks }) :=
  .of_wp fun prog w A R s h => by
    obtain ⟨hp, g, d, tk, os⟩ := s
    obtain ⟨hl, h⟩ := h
    have f1 := AutoSeq1.idx_int
    wp_walk using wpAny_loadPart' hl
    repeat (first
      | (refine wpAny_ite_false (decide_eq_false (by decide)) ?_; wp_walk using wpAny_loadPart' hl)
      | (refine wpAny_ite_false (decide_eq_false (by rw [hi]; decide)) ?_; wp_walk using wpAny_loadPart' hl)
      | (refine wpAny_ite_true (decide_eq_true (by simp)) ?_; wp_walk using wpAny_loadPart' hl))
    exact ⟨_, rfl, h⟩
def rRep0 (K : PySem.W.Frag) : R2 := fun x y H Q => ∃ (l : Addr) (k : Nat) (xs : List V), x = .ref l ∧ y = .int (k : Nat) ∧ SqT K H l xs ∧ xs ≠ [] ∧ k ≤ 1000 ∧ xs.length ≤ 1000 ∧ (k = 1 → Q (.ref l) H) ∧ (k ≠ 1 → ∀ p, H p = none → Q (.ref p) (upd H p (.tup (List.replicate k xs).flatten)))
theorem op_rep0 {X : Cx} : OpR X (binaryOp .Mult) (rRep0 X.K) := by
  intro pins s σ H x y v u Q I rx ry h
  obtain ⟨l, k, xs, rfl, rfl, hT, hne, hk, hz, q1, q2⟩ := h
  by_cases e2 : 2 ≤ k
  · exact op_repT pins s σ H (.ref l) (.int (k : Nat)) v u Q I rx ry ⟨l, (k : Nat), xs, rfl, rfl, hT, hne, by omega, by omega, hz, fun p hp => q2 (by omega) p hp⟩
  · cases rx
    obtain ⟨t, rfl⟩ := ry
    obtain ⟨its, r, ⟨⟨cls, dd, data, sl⟩, ho, hc, n, hd⟩, hs⟩ := I.tuple hT
    simp only at hc hd
    subst hc hd
    have hle : its.length = xs.length := r.length.symm
    have hi : its.toArray.isEmpty = false := by
      cases its with
      | nil => exact absurd (List.eq_nil_of_length_eq_zero hle.symm) hne
      | cons a b => rfl
    rcases (show k = 0 ∨ k = 1 by omega) with e | e
    · subst e
      refine wpAny_binaryOp_repeat_ref (T := "tuple") (U := "int") (by decide) ⟨_, ho, rfl⟩ (fun s1 => typeIs_int s1 0 t) noFill_tuple_mul F.fills_int_mul F.slot_int_rmul repeat_tuple F.slot_int_index.lookup
        (call_meets F.slot_int_rmul (typeIs_int s 0 t) F.entry_int_rmul (F.args_int_rmul_2 _ _) (int_rmul_tuple 0 t l its.toArray n dd sl) ⟨ho, rfl, ⟨_, ho, rfl⟩, call_meets F.slot_tuple_mul ⟨_, ho, rfl⟩ F.entry_tuple_mul (F.args_tuple_mul_2 _ _) (tuple_mul0 l its.toArray n dd sl t hi) ⟨ho, ?_⟩⟩)
      exact ⟨.ref s.heap.objs.size, _, I.laid (t' := s.toks) (o := .tup []) (fun b ob z => Heap.get?_push_of_some _ z) (Nat.le_refl _) ⟨Nat.zero_le _, [], .nil, IsTup.new _ _⟩, rfl, q2 (by decide) _ (I.hok.fresh (Nat.le_refl _))⟩
    · subst e
      refine wpAny_binaryOp_repeat_ref (T := "tuple") (U := "int") (by decide) ⟨_, ho, rfl⟩ (fun s1 => typeIs_int s1 1 t) noFill_tuple_mul F.fills_int_mul F.slot_int_rmul repeat_tuple F.slot_int_index.lookup
        (call_meets F.slot_int_rmul (typeIs_int s 1 t) F.entry_int_rmul (F.args_int_rmul_2 _ _) (int_rmul_tuple 1 t l its.toArray n dd sl) ⟨ho, rfl, ⟨_, ho, rfl⟩, call_meets F.slot_tuple_mul ⟨_, ho, rfl⟩ F.entry_tuple_mul (F.args_tuple_mul_2 _ _) (tuple_mul1 l its.toArray n dd sl t) ⟨ho, ?_⟩⟩)
      exact ⟨.ref l, H, I, rfl, q1 rfl⟩
end Wr

set_option Elab.async false
set_option linter.all false
set_option maxRecDepth 100000
set_option maxHeartbeats 2000000
/-! sorted(..) of tuples of which some are empty. -/
namespace D2
open PySem PySem.Spec PyProof.Rows L2 PySem.W PySem.SeqAt
def SortK (ds : List PyData) : Prop := PySem.W.Sortable ds ∨ ∀ d ∈ ds, ∃ xs, d = PyData.tuple xs
section
variable {prog : Program} {w : World} {A : Around} {E : Value → Shared → Prop} {s : Shared}
theorem call_tup_lt {Q : Value → Shared → Prop} {l b : Addr} {ia ib : Array Value} {e r : Nat → Bool} (hl : s.heap.IsTuple l ia) (hb : s.heap.IsTuple b ib)
    (he : ∀ j (h1 : j < ia.size) (h2 : j < ib.size), EqAt A.in1 s ia[j] ib[j] (e j)) (hr : ∀ j (h1 : j < ia.size) (h2 : j < ib.size), e j = false → RcLt A.in1 s ia[j] ib[j] (r j))
    (h : Q (.bool (firstLt e r (decide (ia.size < ib.size)) (List.range (min ia.size ib.size)))) s) : wpAny (model prog w) A (call (.builtin "tuple.__lt__") [.ref l, .ref b]) Q E s := by
  obtain ⟨⟨c1, d1, t1, s1⟩, ho, hc, n, hd⟩ := id hl
  obtain ⟨⟨c2, d2, t2, s2⟩, ho2, hc2, n2, hd2⟩ := id hb
  simp only at hc hd hc2 hd2; subst hc hd hc2 hd2
  exact call_meets F.slot_tuple_lt ⟨_, ho, rfl⟩ F.entry_tuple_lt (F.args_tuple_lt_2 _ _) (tuple_ltAt l b ia ib n n2 d1 d2 s1 s2 e r) ⟨ho, ho2, he, hr, h⟩
theorem oneLt_tup {xs ys : List PyData} {a b : Value} {as bs : List Addr} {Q : Bool → Shared → Prop} (ra : Reads s.heap a (.tuple xs) as) (rb : Reads s.heap b (.tuple ys) bs) (h : alike (.tuple xs) (.tuple ys) = true)
    (hu : A.units + min (PyData.tuple xs).depth (PyData.tuple ys).depth < cLine) (hq : Q (dataLt (.tuple xs) (.tuple ys)) s) : wpAny (model prog w) A (oneLt' true a b) Q E s := by
  have hal : alikeAll xs ys = true := by simpa [alike] using h
  cases ra with
  | @tuple l o vs n _ as₁ h1 h2 h3 h4 =>
    cases rb with
    | @tuple l' o' vs' n' _ bs₁ k1 k2 k3 k4 =>
      have n1 : vs.size = xs.length := by simpa using ReadsAll.length _ _ _ h4
      have n2 : vs'.size = ys.length := by simpa using ReadsAll.length _ _ _ k4
      rw [dataLt_tuple, ← firstLt_toks xs ys hal, ← n1, ← n2] at hq
      rw [oneLt'_eq]; simp only [if_true]
      refine wpAny_bind (wpAny_cRoomFor (room_here hu) (wpAny_bind (wpAny_callSpecialIfBound?_slot (T := "tuple") ⟨_, h1, h2⟩ F.slot_tuple_lt (call_tup_lt (e := pairEq xs ys) (r := fun j => dataLt (xs.getD j .none) (ys.getD j .none)) ⟨_, h1, h2, _, h3⟩ ⟨_, k1, k2, _, k3⟩ (fun j j1 j2 => ?_) (fun j j1 j2 hj => ?_) ?_))))
      · have := eqAt_alikeAll xs ys A.in1 s vs.toList vs'.toList _ _ h4 k4 hal (room_in hu) j (by simpa using j1) (by simpa using j2); simpa using this
      · have := rcLt_alikeAll xs ys A.in1 s vs.toList vs'.toList _ _ h4 k4 hal (room_in hu) j (by simpa using j1) (by simpa using j2) hj; simpa using this
      · exact wpAny_truthy_bool hq
variable {M : Model}
/-- the first item of each tuple -/
def frstOf (v : Value) (h : Heap) : Option Value := match v with
  | .ref a => (h.get? a).bind fun o => match o.data with
    | .seq xs _ => xs[0]?
    | _ => none
  | _ => none
theorem first_tup {v : Value} {xs : List PyData} {as : List Addr} {Q : Option Value → Shared → Prop} (r : Reads s.heap v (.tuple xs) as) (h : Q (frstOf v s.heap) s) : wpAny M A (firstOfTuple' v) Q E s := by
  cases r with
  | @tuple l o vs n _ as₁ h1 h2 h3 h4 =>
    rw [kas_first_eq]
    have lk : Looks M s.heap (typeOf (Value.ref l)) (Value.type "tuple") := h2 ▸ (Looks.ld h1).andThen .now
    refine wpAny_bind (lk.here ?_)
    rw [if_neg (by decide)]
    refine wpAny_bind (listItems_at h1 h3 (wpAny_pure ?_))
    have e : frstOf (.ref l) s.heap = vs[0]? := by simp [frstOf, h1, h3]
    rw [← e]
    exact h
theorem firsts_tup : ∀ (vs : List Value) {Q : List (Option Value) → Shared → Prop}, (∀ v ∈ vs, ∃ xs as, Reads s.heap v (.tuple xs) as) → Q (vs.map fun v => frstOf v s.heap) s → wpAny M A (vs.mapM firstOfTuple') Q E s
  | [], _, _, h => by rw [List.mapM_nil]; exact wpAny_pure h
  | v :: r, Q, hv, h => by
    obtain ⟨xs, as, rv⟩ := hv v List.mem_cons_self
    rw [List.mapM_cons]
    exact wpAny_bind (first_tup rv (wpAny_bind (firsts_tup r (Q := fun bs s1 => wpAny M A (pure (frstOf v s.heap :: bs)) Q E s1) (fun u hu => hv u (List.mem_cons_of_mem _ hu)) (wpAny_pure h))))
/-- which comparison is taken, where some tuple is empty -/
theorem kind_tups {vs : List Value} {Q : SortKind → Shared → Prop} (h2 : 2 ≤ vs.length) (hv : ∀ v ∈ vs, ∃ xs as, Reads s.heap v (.tuple xs) as) (hn : ((vs.map fun v => frstOf v s.heap).toArray.all fun x => x.isSome) = false)
    (h : Q (if (((vs.map fun v => frstOf v s.heap).toArray)[0]?.bind id).isSome then general' else oneType') s) : wpAny M A (keyKind' vs.toArray) Q E s := by
  rw [keyKind'_eq, List.mapM_toArray, map_eq_pure_bind]
  refine wpAny_bind (wpAny_bind (firsts_tup vs hv (wpAny_pure ?_)))
  rw [if_neg (by rw [hn]; decide)]
  by_cases c : (((vs.map fun v => frstOf v s.heap).toArray)[0]?.bind id).isSome = true
  · rw [if_pos c] at h ⊢
    exact wpAny_pure h
  · rw [if_neg c] at h ⊢
    obtain ⟨v1, v2, rest, rfl⟩ : ∃ v1 v2 rest, vs = v1 :: v2 :: rest := by
      match vs, h2 with
      | [], h2 => simp at h2
      | [_], h2 => simp at h2
      | v1 :: v2 :: rest, _ => exact ⟨v1, v2, rest, rfl⟩
    rw [oneTypeOnly'_eq, List.mapM_toArray, map_eq_pure_bind]
    refine wpAny_bind (wpAny_bind (wpAny_bind (kas_mapM (r := Value.type "tuple") _ (fun v hm Q1 hq => ?_) (wpAny_pure ?_))))
    · obtain ⟨xs, as, rv⟩ := hv v hm
      cases rv with
      | @tuple l o vs n _ as₁ g1 g2 g3 g4 => exact (show Looks M s.heap (typeOf (Value.ref l)) (Value.type "tuple") from g2 ▸ (Looks.ld g1).andThen .now).here hq
    · have hall : ((List.map (fun _ => Value.type "tuple") (v1 :: v2 :: rest)).toArray.all fun x => x == Value.type "tuple") = true := by
        simp only [List.all_toArray, List.all_map, List.all_eq_true]
        intro _ _
        rfl
      have g0 : (List.map (fun _ => Value.type "tuple") (v1 :: v2 :: rest)).toArray[0]? = some (Value.type "tuple") := by simp
      rw [g0]; simp only [hall, if_true]
      exact wpAny_pure (wpAny_pure h)
theorem frst_some {v : Value} {xs : List PyData} {as : List Addr} (r : Reads s.heap v (.tuple xs) as) : (frstOf v s.heap).isSome = true ↔ xs ≠ [] := by
  cases r with
  | @tuple l o vs n _ as₁ h1 h2 h3 h4 =>
    have e : frstOf (.ref l) s.heap = vs[0]? := by simp [frstOf, h1, h3]
    have n1 : vs.size = xs.length := by simpa using ReadsAll.length _ _ _ h4
    rw [e]
    constructor
    · intro z e2
      rw [e2] at n1
      have : vs[0]? = none := Array.getElem?_eq_none (by rw [n1]; exact Nat.le_refl _)
      rw [this] at z
      cases z
    · intro z
      have : 0 < vs.size := by rw [n1]; exact List.length_pos_iff.mpr z
      rw [Array.getElem?_eq_getElem this]
      rfl
theorem each_right {h : Heap} : ∀ {vs : List Value} {ds : List PyData}, EachIs (fun v d => ∃ as, Reads h v d as) vs ds → ∀ d ∈ ds, ∃ v ∈ vs, ∃ as, Reads h v d as
  | _, _, .nil, d, hd => by cases hd
  | _, _, .cons (a := v) (b := d0) r t, d, hd => by
    rcases List.mem_cons.mp hd with z | z
    · rw [z]
      exact ⟨v, List.mem_cons_self, r⟩
    · obtain ⟨v2, hv, r2⟩ := each_right t d z
      exact ⟨v2, List.mem_cons_of_mem _ hv, r2⟩
theorem sortsAt2 {vs : List Value} {ds : List PyData} (e : EachIs (fun v d => ∃ as, Reads s.heap v d as) vs ds) (hal : AllAlike ds) (hk : SortK ds) (hu : ∀ d, d ∈ ds → A.units + d.depth < cLine) : SortsAt prog w A s (dataKind s.heap ds) vs := by
  rcases hk with hk | hk
  · exact SortsAt.data e hal hk hu
  by_cases c : ∀ d ∈ ds, ∃ x r, d = PyData.tuple (x :: r)
  · exact SortsAt.data e hal (.inl c) hu
  have room : ∀ {d d1 : PyData}, d ∈ ds → A.units + min d.depth d1.depth < cLine := fun {d d1} hd => Nat.lt_of_le_of_lt (Nat.add_le_add_left (Nat.min_le_left _ _) _) (hu d hd)
  have hv : ∀ v ∈ vs, ∃ xs as, Reads s.heap v (.tuple xs) as := fun v hv => by
    obtain ⟨d, hd, as, r⟩ := e.left v hv
    obtain ⟨xs, rfl⟩ := hk d hd
    exact ⟨xs, as, r⟩
  have hn : ((vs.map fun v => frstOf v s.heap).toArray.all fun x => x.isSome) = false := by
    refine Bool.eq_false_iff.mpr fun z => c fun d hd => ?_
    obtain ⟨v, hvm, as, r⟩ := each_right e d hd
    obtain ⟨xs, rfl⟩ := hk d hd
    simp only [List.all_toArray, List.all_map, List.all_eq_true] at z
    have := (frst_some r).mp (z v hvm)
    cases xs with
    | nil => exact absurd rfl this
    | cons x r2 => exact ⟨x, r2, rfl⟩
  refine ⟨fun v hv => ?_, ⟨if (((vs.map fun v => frstOf v s.heap).toArray)[0]?.bind id).isSome then general' else oneType', ?_, fun h2 E Q hq => kind_tups h2 hv hn hq⟩⟩
  · obtain ⟨d, hd, as, r⟩ := e.left v hv
    exact ⟨_, dataKind_some hal hd r⟩
  · intro E x y a b Q ha hb hq
    obtain ⟨d, as, hd, ra, rfl⟩ := dataKind_inv ha
    obtain ⟨d1, as1, hd1, rb, rfl⟩ := dataKind_inv hb
    obtain ⟨xs, rfl⟩ := hk d hd
    obtain ⟨ys, rfl⟩ := hk d1 hd1
    by_cases g : (((vs.map fun v => frstOf v s.heap).toArray)[0]?.bind id).isSome = true
    · rw [if_pos g]
      exact (oneLt_alike (f := false) (fun z => by cases z) ra rb (hal _ hd _ hd1) (by simp) (room hd) hq)
    · rw [if_neg g, keyLt'_oneType]
      exact oneLt_tup ra rb (hal _ hd _ hd1) (room hd) hq
end
section
variable {X : Cx}
def rSortD2 (K : PySem.W.Frag) (rev : Bool) : List V → Hp → VK → Prop := fun vs H Q => ∃ (a : Addr) (xs : List V) (ds : List PyData), vs = [.ref a] ∧ (SqL K H a xs ∨ SqT K H a xs) ∧ DpAll K H xs ds ∧ PySem.W.AllAlike ds ∧ SortK ds ∧ (∀ d ∈ ds, d.depth ≤ 60) ∧
  ∀ (ys : List V) (p : Addr), H p = none → DpAll K H ys (ds.mergeSort (leD rev)) → ys.Perm xs → Q (.ref p) (upd H p (.lst ys))
theorem sortD_run2 {rev : Bool} {kw : List (Str × Value)} {pins : List (Addr × Obj)} {s : Shared} {σ : L2.St} {H : Hp} {a : Addr} {xs : List V} {ds : List PyData} {Q : VK} (I : Inv X pins σ H s) (hu : X.A.units + 64 < cLine) (hs : SqL X.K H a xs ∨ SqT X.K H a xs) (hd : DpAll X.K H xs ds)
    (hal : PySem.W.AllAlike ds) (hk : SortK ds) (hdep : ∀ d ∈ ds, d.depth ≤ 60) (hkw : ∀ b, Builtin.«list.sort» ⟨[.ref b], kw⟩ = Builtin.«list.sort» ⟨[.ref b], [(Str.ofString "reverse", .bool rev)]⟩) (ha1 : argsOk "sorted" ⟨[.ref a], kw⟩) (ha2 : ∀ x, argsOk "list.sort" ⟨[.ref x], kw⟩)
    (q : ∀ (ys : List V) (p : Addr), H p = none → DpAll X.K H ys (ds.mergeSort (leD rev)) → ys.Perm xs → Q (.ref p) (upd H p (.lst ys))) : wpAny (model X.prog X.w) X.A (call (.builtin "sorted") [.ref a] kw) (EP X pins σ Q) X.xe s := by
  obtain ⟨its, rv, hl, hz⟩ : ∃ its : List Value, Vals xs its ∧ (s.heap.IsList a its.toArray ∨ IsTup s.heap a its.toArray) ∧ xs.length ≤ sizeLine := by
    rcases hs with hs | hs
    · obtain ⟨its, rv, hl, hz⟩ := I.list hs
      exact ⟨its, rv, .inl hl.isList, hz⟩
    · obtain ⟨its, rv, hl, hz⟩ := I.tuple hs
      exact ⟨its, rv, .inr hl, hz⟩
  have len := dpAll_len hd
  have zl : (xs.zip ds).map Prod.snd = ds := List.map_snd_zip (by omega)
  have zf : (xs.zip ds).map Prod.fst = xs := List.map_fst_zip (by omega)
  have el : its.length = (xs.zip ds).length := by
    rw [← rv.length, List.length_zip]
    omega
  refine sorted_of_sort2 hl (by rw [← rv.length]; exact hz) ha1 ha2 fun E' => ?_
  rw [hkw]
  have e := each_vals rv len
  have er := each_reads I rv hd
  have er' : PySem.W.EachIs (fun v (b : V × PyData) => ∃ as, Reads (PySem.W.sortingHeap (PySem.W.copyHeap s.heap its) (s.heap.objs.size + 1) its) v b.2 as) its (xs.zip ds) := er.mono fun _ _ ⟨as, r⟩ => ⟨as, PyProof.Rows.Reads.keeps (fun _ _ => PySem.W.sorting_copy_old) r⟩
  have S : PySem.W.SortsAt X.prog X.w X.A.in1.in1 { s with heap := PySem.W.sortingHeap (PySem.W.copyHeap s.heap its) (s.heap.objs.size + 1) its } (PySem.W.dataKind (PySem.W.sortingHeap (PySem.W.copyHeap s.heap its) (s.heap.objs.size + 1) its) ((xs.zip ds).map Prod.snd)) its := by
    refine sortsAt2 (s := { s with heap := PySem.W.sortingHeap (PySem.W.copyHeap s.heap its) (s.heap.objs.size + 1) its }) (PySem.W.each_map (R := fun v d => ∃ as, Reads (PySem.W.sortingHeap (PySem.W.copyHeap s.heap its) (s.heap.objs.size + 1) its) v d as) Prod.snd er') (by rw [zl]; exact hal) (by rw [zl]; exact hk) fun d hd2 => ?_
    rw [zl] at hd2
    have := hdep d hd2
    show X.A.units + 1 + 1 + d.depth < cLine
    omega
  refine PySem.W.list_sort_rev_vals (s := { s with heap := PySem.W.copyHeap s.heap its }) (PySem.W.copyHeap_at s.heap its) S (by rw [← rv.length]; exact hz) ⟨rfl, ?_⟩
  have out := PySem.W.sortVals_data (h' := PySem.W.sortingHeap (PySem.W.copyHeap s.heap its) (s.heap.objs.size + 1) its) rev e er' (by rw [zl]; exact hal)
  have rv2 := vals_each out
  have pz : ((xs.zip ds).mergeSort (PySem.W.dataLe rev Prod.snd)).Perm (xs.zip ds) := List.mergeSort_perm _ _
  have d2 : DpAll X.K H (((xs.zip ds).mergeSort (PySem.W.dataLe rev Prod.snd)).map Prod.fst) (((xs.zip ds).mergeSort (PySem.W.dataLe rev Prod.snd)).map Prod.snd) := dpAll_of fun p hp => dpAll_zip hd p (pz.mem_iff.mp hp)
  have es : ((xs.zip ds).mergeSort (PySem.W.dataLe rev Prod.snd)).map Prod.snd = ds.mergeSort (leD rev) := by
    have z := PySem.W.sort_maps (r := PySem.W.dataLe rev Prod.snd) (s := leD rev) Prod.snd (l := xs.zip ds) (fun a _ b _ => rfl)
    rw [zl] at z
    exact z
  rw [es] at d2
  have pf := pz.map Prod.fst
  rw [zf] at pf
  obtain ⟨ep, he'⟩ := PyProof.Rows.sortedAll_at s.heap its (PySem.W.sortVals (PySem.W.dataKind (PySem.W.sortingHeap (PySem.W.copyHeap s.heap its) (s.heap.objs.size + 1) its) ((xs.zip ds).map Prod.snd)) rev its its).toArray
  refine ⟨.ref _, upd H (s.heap.objs.size + 1) (.lst (((xs.zip ds).mergeSort (PySem.W.dataLe rev Prod.snd)).map Prod.fst)), I.laid (t' := s.toks) (fun _ _ => PyProof.Rows.sortedAll_old) (Nat.le_succ _) ⟨?_, _, ep, rv2, he'⟩, rfl, q _ _ (I.hok.fresh (Nat.le_succ _)) d2 pf⟩
  rw [pf.length_eq]
  exact hz
theorem cr_sortD2 (hu : X.A.units + 64 < cLine) : CallR X (.builtin "sorted") (rSortD2 X.K false) := by
  intro pins s σ H vs us Q I r h
  obtain ⟨a, xs, ds, rfl, hs, hd, hal, hk, hdep, q⟩ := h
  rw [Vals.ref1 r]
  exact sortD_run2 I hu hs hd hal hk hdep PySem.W.plain_is_rev (args_sorted1 _) (fun _ => args_list_sort _) q
end
end D2

set_option Elab.async false
set_option linter.all false
set_option maxRecDepth 100000
set_option maxHeartbeats 2000000
/-! dicts whose keys are tuples of any kind, each key's own tuple known. -/
namespace D3
open PySem PySem.Spec PyProof.Rows L2
mutual
/-- a datum as a key -/
def nk : PyData → NestedKey
  | .none => .none
  | .bool b => .num (if b = true then 1 else 0)
  | .int i => .num i
  | .str x => .text x
  | .tuple xs => .tup (nkL xs)
  | .list _ => .none
  | .dict _ => .none
def nkL : List PyData → List NestedKey
  | [] => []
  | d :: r => nk d :: nkL r
end
mutual
/-- ints, texts and tuples of them -/
def keyD : PyData → Bool
  | .int _ => true
  | .str _ => true
  | .tuple xs => keyL xs
  | _ => false
def keyL : List PyData → Bool
  | [] => true
  | d :: r => keyD d && keyL r
end
mutual
theorem nk_inj : ∀ {d e : PyData}, keyD d = true → keyD e = true → nk d = nk e → d = e
  | .int i, .int j, _, _, h => by simp only [nk, NestedKey.num.injEq] at h; rw [h]
  | .str i, .str j, _, _, h => by simp only [nk, NestedKey.text.injEq] at h; rw [h]
  | .tuple xs, .tuple ys, h1, h2, h => by
    simp only [nk, NestedKey.tup.injEq] at h
    rw [nkL_inj (by simpa [keyD] using h1) (by simpa [keyD] using h2) h]
  | .int _, .str _, _, _, h => by simp [nk] at h
  | .int _, .tuple _, _, _, h => by simp [nk] at h
  | .str _, .int _, _, _, h => by simp [nk] at h
  | .str _, .tuple _, _, _, h => by simp [nk] at h
  | .tuple _, .int _, _, _, h => by simp [nk] at h
  | .tuple _, .str _, _, _, h => by simp [nk] at h
  | .none, _, h, _, _ => by simp [keyD] at h
  | .bool _, _, h, _, _ => by simp [keyD] at h
  | .list _, _, h, _, _ => by simp [keyD] at h
  | .dict _, _, h, _, _ => by simp [keyD] at h
  | .int _, .none, _, h, _ => by simp [keyD] at h
  | .int _, .bool _, _, h, _ => by simp [keyD] at h
  | .int _, .list _, _, h, _ => by simp [keyD] at h
  | .int _, .dict _, _, h, _ => by simp [keyD] at h
  | .str _, .none, _, h, _ => by simp [keyD] at h
  | .str _, .bool _, _, h, _ => by simp [keyD] at h
  | .str _, .list _, _, h, _ => by simp [keyD] at h
  | .str _, .dict _, _, h, _ => by simp [keyD] at h
  | .tuple _, .none, _, h, _ => by simp [keyD] at h
  | .tuple _, .bool _, _, h, _ => by simp [keyD] at h
  | .tuple _, .list _, _, h, _ => by simp [keyD] at h
  | .tuple _, .dict _, _, h, _ => by simp [keyD] at h
theorem nkL_inj : ∀ {ds es : List PyData}, keyL ds = true → keyL es = true → nkL ds = nkL es → ds = es
  | [], [], _, _, _ => rfl
  | [], _ :: _, _, _, h => by simp [nkL] at h
  | _ :: _, [], _, _, h => by simp [nkL] at h
  | d :: r, e :: r', h1, h2, h => by
    simp only [keyL, Bool.and_eq_true] at h1 h2
    simp only [nkL, List.cons.injEq] at h
    rw [nk_inj h1.1 h2.1 h.1, nkL_inj h1.2 h2.2 h.2]
end
mutual
theorem reads_key {h : Heap} : ∀ {d : PyData} {v : Value} {as : List Addr}, keyD d = true → Reads h v d as → NestedIs h (nk d) v
  | .int i, _, _, _, r => by cases r; exact .int _ _
  | .str x, _, _, _, r => by cases r; exact .text _ _
  | .tuple xs, _, _, k, r => by
    cases r with
    | tuple h1 h2 h3 h4 =>
      rw [nk]
      exact .tup h1 h2 h3 (reads_keys (by simpa [keyD] using k) h4)
  | .none, _, _, k, _ => by simp [keyD] at k
  | .bool _, _, _, k, _ => by simp [keyD] at k
  | .list _, _, _, k, _ => by simp [keyD] at k
  | .dict _, _, _, k, _ => by simp [keyD] at k
theorem reads_keys {h : Heap} : ∀ {ds : List PyData} {vs : List Value} {as : List Addr}, keyL ds = true → ReadsAll h vs ds as → NestedAll h (nkL ds) vs
  | [], _, _, _, r => by cases r; exact .nil
  | d :: ds, _, _, k, r => by
    simp only [keyL, Bool.and_eq_true] at k
    cases r with
    | cons r1 r2 => exact .cons (reads_key k.1 r1) (reads_keys k.2 r2)
end
/-- a key's datum, its own tuple, its value -/
abbrev Ent := PyData × Addr × V
def EntR (p : Ent) (q : NestedKey × Addr × Value) : Prop := nk p.1 = q.1 ∧ p.2.1 = q.2.1 ∧ RelV p.2.2 q.2.2
def dkφ (P : Program) (w : World) (d : Addr) (xs : List Ent) (h : Heap) : Prop := (d == sysModules) = false ∧ xs.length ≤ sizeLine ∧ ∃ ys : List (NestedKey × Addr × Value), Paired EntR xs ys ∧
  ∃ o es ep, h.get? d = some o ∧ o.ExactDict ∧ o.data = .dict es ep ∧ es.toList = ys.map (entryOfKey (nestedKind P w)) ∧ (ys.map (·.1)).Nodup
/-- the dict at d, with these entries -/
def DKO (P : Program) (w : World) (d : Addr) (xs : List Ent) : HO := .ext (dkφ P w d xs)
/-- its keys' tuples stand -/
def KeyOk (K : PySem.W.Frag) (H : Hp) (k : PyData) (b : Addr) : Prop := Dp K H (.ref b) k ∧ keyD k = true ∧ (nk k).depth ≤ 8
def KeysOk (K : PySem.W.Frag) (H : Hp) (xs : List Ent) : Prop := ∀ x ∈ xs, KeyOk K H x.1 x.2.1
theorem dkφ.at {P : Program} {w : World} {d : Addr} {xs : List Ent} {h h1 : Heap} (R : dkφ P w d xs h) (k : ∀ o, h.get? d = some o → h1.get? d = some o) : dkφ P w d xs h1 := let ⟨a, b, ys, c, o, es, ep, e, r⟩ := R; ⟨a, b, ys, c, o, es, ep, k o e, r⟩
theorem dko_ok {P : Program} {w : World} {H : Hp} {h : Heap} {d : Addr} {xs : List Ent} (R : dkφ P w d xs h) : ObjOk P w H h d (DKO P w d xs) := by
  have ⟨_, _, _, _, o, _, _, ho, _⟩ := R
  exact ⟨R, ⟨o, ho⟩, fun h1 h2 p k => dkφ.at p k⟩
theorem not_dko {P : Program} {w : World} {d : Addr} {xs : List Ent} : Wr.NoT (DKO P w d xs) := fun _ e => by unfold DKO at e; cases e
section
variable {X : Cx} {pins : List (Addr × Obj)} {σ : L2.St} {H : Hp} {s : Shared} {d : Addr} {xs : List Ent}
theorem key_is (I : Inv X pins σ H s) {k : PyData} {b : Addr} (h : KeyOk X.K H k b) : (nestedKind X.prog X.w).is s.heap (nk k) b := by
  obtain ⟨as, r⟩ := Dp.reads I k (.ref b) (.ref b) h.1 rfl
  exact ⟨reads_key h.2.1 r, h.2.2⟩
theorem paired_mem {α β : Type} {R : α → β → Prop} : ∀ {as : List α} {bs : List β}, Paired R as bs → ∀ b ∈ bs, ∃ a ∈ as, R a b
  | _, _, .nil, b, hb => by cases hb
  | _, _, .cons r t, b, hb => by
    rcases List.mem_cons.mp hb with z | z
    · rw [z]
      exact ⟨_, List.mem_cons_self, r⟩
    · obtain ⟨a, ha, r2⟩ := paired_mem t b z
      exact ⟨a, List.mem_cons_of_mem _ ha, r2⟩
/-- the library's own word for it -/
theorem dko_of (I : Inv X pins σ H s) (R : dkφ X.prog X.w d xs s.heap) (hk : KeysOk X.K H xs) : ∃ ys, Paired EntR xs ys ∧ s.heap.DictOfH (nestedKind X.prog X.w) d ys := by
  obtain ⟨_, _, ys, pr, o, es, ep, h1, h2, h3, h4, h5⟩ := R
  refine ⟨ys, pr, o, es, ep, h1, h2, h3, h4, fun y hy => ?_, h5⟩
  obtain ⟨x, hx, e1, e2, _⟩ := paired_mem pr y hy
  rw [← e1, ← e2]
  exact key_is I (hk x hx)
theorem dko_get (I : Inv X pins σ H s) (h : H d = some (DKO X.prog X.w d xs)) : dkφ X.prog X.w d xs s.heap := (I.hok d _ h).1
end
/-- a pair laid into it: the value of an equal key, else a new last one -/
def putX (xs : List Ent) (k : PyData) (b : Addr) (v : V) : List Ent := if xs.any (fun x => decide (nk x.1 = nk k)) = true then xs.map (fun x => if nk x.1 = nk k then (x.1, x.2.1, v) else x) else xs ++ [(k, b, v)]
theorem put_map {k : PyData} {v : V} {u : Value} (r : RelV v u) : ∀ {xs : List Ent} {ys : List (NestedKey × Addr × Value)}, Paired EntR xs ys → Paired EntR (xs.map fun x => if nk x.1 = nk k then (x.1, x.2.1, v) else x) (ys.map (putAt (nk k) u))
  | _, _, .nil => .nil
  | _, _, .cons (a := x) (b := y) h t => by
    refine .cons ?_ (put_map r t)
    unfold putAt; dsimp only
    by_cases c : nk x.1 = nk k
    · rw [if_pos c, if_pos (h.1.symm.trans c)]
      exact ⟨h.1, h.2.1, r⟩
    · rw [if_neg c, if_neg fun z => c (h.1.trans z)]
      exact h
theorem paired_snoc {α β : Type} {R : α → β → Prop} : ∀ {as : List α} {bs : List β} {a : α} {b : β}, Paired R as bs → R a b → Paired R (as ++ [a]) (bs ++ [b])
  | _, _, _, _, .nil, h => .cons h .nil
  | _, _, _, _, .cons r t, h => .cons r (paired_snoc t h)
theorem putX_pair {xs : List Ent} {ys : List (NestedKey × Addr × Value)} {k : PyData} {b : Addr} {v : V} {u : Value} (pr : Paired EntR xs ys) (r : RelV v u) : Paired EntR (putX xs k b v) (storedH ys (nk k) b u) := by
  have e : (atKey ys (nk k)).isSome = xs.any (fun x => decide (nk x.1 = nk k)) := by
    induction pr with
    | nil => rfl
    | @cons x y xs ys h t ih =>
      unfold atKey at ih ⊢
      rw [List.any_cons, List.find?_cons]
      by_cases c : nk x.1 = nk k
      · rw [decide_eq_true c, ← h.1, decide_eq_true c]
        rfl
      · rw [decide_eq_false c, ← h.1, decide_eq_false c, Bool.false_or]
        exact ih
  unfold putX storedH
  rw [e]
  split
  · exact put_map r pr
  · exact paired_snoc pr ⟨rfl, rfl, r⟩
theorem putX_len (xs : List Ent) (k : PyData) (b : Addr) (v : V) : (putX xs k b v).length ≤ xs.length + 1 := by
  unfold putX
  split
  · rw [List.length_map]; omega
  · rw [List.length_append]; exact Nat.le_refl _
end D3

set_option Elab.async false
set_option linter.all false
set_option maxRecDepth 100000
set_option maxHeartbeats 2000000
namespace D3
open PySem PySem.Spec PyProof.Rows L2
section
variable {X : Cx} {pos : Pos}
/-- {} -/
def tNewX (P : Program) (w : World) : TE := fun _ H Q => ∀ p, H p = none → Q (.ref p) (upd H p (DKO P w p []))
theorem new_ok {P : Program} {w : World} {H : Hp} (h : Heap) (hb : sysModules < h.objs.size) : ObjOk P w H (h.push { cls := .type "dict", data := .dict #[] }) h.objs.size (DKO P w h.objs.size []) :=
  dko_ok ⟨beq_eq_false_iff_ne.mpr (Ne.symm (Nat.ne_of_lt hb)), Nat.zero_le _, [], .nil, _, #[], 0, Heap.get?_push_size _ rfl, ⟨rfl, rfl, rfl⟩, rfl, rfl, List.nodup_nil⟩
theorem pe_newX : PE X (.Dict [] [] pos) (tNewX X.prog X.w) := ⟨fun pins s σ H Q I h =>
  wpAny_Dict_empty ⟨.ref s.heap.objs.size, _, I.laid (a := s.heap.objs.size) (t' := s.toks) (o := DKO X.prog X.w s.heap.objs.size []) (fun _ _ z => Heap.get?_push_of_some _ z) (Nat.le_refl _) (new_ok s.heap I.big), rfl, h _ (I.hok.fresh (Nat.le_refl _))⟩⟩
/-- d[k] = v, at the library's level -/
theorem put_run {pins : List (Addr × Obj)} {σ : L2.St} {H : Hp} {s : Shared} {d b : Addr} {xs : List Ent} {k : PyData} {v : V} {u : Value} {E : Value → Shared → Prop} {Q : Unit → Shared → Prop} (hu : X.A.units + 64 < cLine) (I : Inv X pins σ H s) (hd : H d = some (DKO X.prog X.w d xs)) (hk : KeysOk X.K H xs) (hb : KeyOk X.K H k b) (hl : xs.length < sizeLine) (r : RelV v u)
    (q : ∀ s1, Inv X pins σ (upd H d (DKO X.prog X.w d (putX xs k b v))) s1 → Q () s1) : wpAny (model X.prog X.w) X.A (setItem (.ref d) (.ref b) u) Q E s := by
  have R := dko_get I hd
  obtain ⟨ys, pr, hm⟩ := dko_of I R hk
  have pl : xs.length = ys.length := Paired.length pr
  refine wpAny_setItem_heap (knd := nestedKind X.prog X.w) (show X.A.units + 1 + 8 < cLine by omega) (key_is I hb) hm (fun h1 hm1 sb => q _ ?_) (by omega)
  have R1 : dkφ X.prog X.w d (putX xs k b v) h1 := by
    obtain ⟨o, es, ep, g1, g2, g3, g4, _, g6⟩ := hm1
    exact ⟨R.1, by have := putX_len xs k b v; omega, _, putX_pair pr r, o, es, ep, g1, g2, g3, g4, g6⟩
  have he : ∃ u, h1.get? d = some u := let ⟨o, _, _, g1, _⟩ := hm1; ⟨o, g1⟩
  exact I.write (e := d) (t' := s.toks + (nestedKind X.prog X.w).draws (nk k)) (by rw [hd]; trivial) (.inl rfl) (fun c ob hc z => (sb.2 c hc).trans z) he (dko_ok R1)
def sPutX (P : Program) (w : World) (K : PySem.W.Frag) (td ty tv : TE) : TS := fun D σ H => tv σ H fun v H1 => td σ H1 fun x H2 => ty σ H2 fun y H3 => ∃ (d b : Addr) (xs : List Ent) (k : PyData), x = .ref d ∧ y = .ref b ∧ H3 d = some (DKO P w d xs) ∧ KeysOk K H3 xs ∧ KeyOk K H3 k b ∧ xs.length < sizeLine ∧ D.nx σ (upd H3 d (DKO P w d (putX xs k b v)))
theorem ps_putX {o i value : Expr} {td ty tv : TE} {p1 : Pos} (hu : X.A.units + 64 < cLine) (ho : PE X o td) (hi : PE X i ty) (hv : PE X value tv) (hs : swapsWith value (some (.Subscript o i p1)) pos.line X.env = pure false) :
    PS X (.Assign [.Subscript o i p1] value pos) (sPutX X.prog X.w X.K td ty tv) := by
  refine ⟨fun pins s σ H D I h => ?_⟩
  refine wpAny_Assign_Subscript (thn (hv.run pins s σ H _ I h) fun r s1 ⟨v, H1, I1, rv, q1⟩ => thn (ho.run pins s1 σ H1 _ I1 q1) fun u s2 ⟨x, H2, I2, rx, q2⟩ => thn (hi.run pins s2 σ H2 _ I2 q2) fun iv s3 ⟨y, H3, I3, ry, z⟩ => ?_) hs
  obtain ⟨d, b, xs, k, rfl, rfl, hd, hk, hb, hl, q3⟩ := z
  cases rx
  cases ry
  exact put_run hu I3 hd hk hb hl rv fun s4 I4 => ⟨σ, _, I4, q3⟩
/-- {k: v} -/
def tDispX (P : Program) (w : World) (K : PySem.W.Frag) (tk tv : TE) : TE := fun σ H Q => ∀ p, H p = none → tPairs [(tk, tv)] σ (upd H p (DKO P w p [])) fun ps H2 => ∃ (b : Addr) (k : PyData) (v : V), ps = [(.ref b, v)] ∧ KeyOk K H2 k b ∧ H2 p = some (DKO P w p []) ∧ Q (.ref p) (upd H2 p (DKO P w p [(k, b, v)]))
end
/-- the keys' own tuples, in their order -/
def Itx (P : Program) (w : World) (d : Addr) (o : Obj) (xs : List Ent) : It :=
  ⟨fun i H => H d = some (.frz o (DKO P w d xs)) ∧ i < xs.length, fun i H x H' => H' = H ∧ ∃ e : Ent, xs[i]? = some e ∧ x = .ref e.2.1, fun i H => H d = some (.frz o (DKO P w d xs)) ∧ xs.length ≤ i⟩
section
variable {X : Cx}
theorem frzX {pins : List (Addr × Obj)} {σ : L2.St} {H : Hp} {s : Shared} {d : Addr} {o : Obj} {xs : List Ent} (I : Inv X pins σ H s) (h : H d = some (.frz o (DKO X.prog X.w d xs))) :
    (d == sysModules) = false ∧ s.heap.get? d = some o ∧ o.ExactDict ∧ ∃ (es : Array DictEntry) (ep : Nat), o.data = .dict es ep ∧ es.size = xs.length ∧ ∀ (i : Nat) (e : Ent), xs[i]? = some e → ∃ en : DictEntry, es[i]? = some en ∧ en.key = .ref e.2.1 ∧ RelV e.2.2 en.val := by
  obtain ⟨ho, R, _⟩ := I.hok d _ h
  obtain ⟨z, _, ys, pr, o1, es, ep, g1, g2, g3, g4, _⟩ := R
  rw [ho] at g1
  cases g1
  have l1 : es.size = ys.length := size_of_entries g4
  have l2 : xs.length = ys.length := Paired.length pr
  refine ⟨z, ho, g2, es, ep, g3, by omega, fun i e he => ?_⟩
  obtain ⟨y, hy, e1, e2, e3⟩ := paired_get pr he
  have q := entry_at g4 i
  rw [hy] at q
  exact ⟨_, q, by show Value.ref y.2.1 = _; rw [e2], e3⟩
end
section
variable {P : Program} {w : World} {K : PySem.W.Frag} {tg : Expr} {d : Addr} {o : Obj} {es : Array DictEntry} {ep : Nat} {xs : List Ent}
theorem turn_keysX (it : Addr) (hod : o.data = .dict es ep) : Turn P w K tg (Itx P w d o xs) [it] it (fun i h => h.IsKeyIter it d i xs.length ep) where
  mem := by simp
  obj := fun i h st b hb => by
    obtain rfl : b = it := by simpa using hb
    obtain ⟨oi, e1, c1, d1⟩ := st
    exact ⟨oi, e1, fun v z => by rw [d1] at z; cases z⟩
  keep := fun i h h1 st k => st.at fun oi e1 => k it (by simp) oi e1
  item := by
    intro X e1 e2 e3 hc i pins s σ H E I hf st hg; subst e1 e2 e3
    obtain ⟨hd, hi⟩ := hg
    obtain ⟨a0, a1, a2, a3, a4, a5⟩ := hf it (by simp)
    obtain ⟨hs, hgd, hx, es1, ep1, hdt, hsz, ent⟩ := frzX I hd
    obtain ⟨rfl, rfl⟩ := dict_ep hod hdt
    obtain ⟨p, hp⟩ : ∃ p, xs[i]? = some p := ⟨xs[i], List.getElem?_eq_getElem hi⟩
    obtain ⟨en, hen, hkey, _⟩ := ent i p hp
    refine next_key_item st hgd hdt hsz hen fun h1 st1 sb => ?_
    have I1 : Inv X pins σ H { s with heap := h1 } := I.turned (t' := s.toks) (fun b ob hb z => (sb.2 b hb).trans z) a0 a1 a3 a4 a5
    obtain ⟨oi, b1, b2, b3⟩ := id st1
    exact ⟨en.key, rfl, go_of (s := { s with heap := h1 }) b1 b2 b3 (by decide) ⟨.ref p.2.1, H, I1, hkey, ⟨rfl, p, hp, rfl⟩, st1, fun b hb => (hf b hb).1⟩⟩
  done := by
    intro X e1 e2 e3 hc i pins s σ H E I hf st hg; subst e1 e2 e3
    obtain ⟨hd, hi⟩ := hg
    obtain ⟨a0, a1, a2, a3, a4, a5⟩ := hf it (by simp)
    obtain ⟨hs, hgd, hx, es1, ep1, hdt, hsz, ent⟩ := frzX I hd
    obtain ⟨rfl, rfl⟩ := dict_ep hod hdt
    exact next_key_end (I.ok.hd hc) st hgd hdt hsz hi fun h1 eb => ⟨rfl, I.turned (t' := s.toks) (fun b ob hb z => eb b ob hb z) a0 a1 a3 a4 a5⟩
  self := fun A i s Q E st h => by
    refine wpAny_pyIter_slot st.typeIs F.slot_dict_keyiterator_iter (wpAny_call_entry F.slot_dict_keyiterator_iter st.typeIs F.entry_dict_keyiterator_iter (show wpAny _ _ (ret (.ref it)) _ _ s from ?_) (F.args_dict_keyiterator_iter_1 _))
    exact wpAny_pure ⟨_, rfl, "dict_keyiterator", _, st.typeIs, F.slot_dict_keyiterator_next.lookup, h⟩
def iKeysX (P : Program) (w : World) (td : TE) : TI := fun σ H R => td σ H fun x H1 => ∃ d o xs, x = .ref d ∧ H1 d = some (.frz o (DKO P w d xs)) ∧ R (Itx P w d o xs) H1
theorem pi_keysX {X : Cx} {e : Expr} {td : TE} (he : PE X e td) : PI X tg e (iKeysX X.prog X.w td) := by
  refine ⟨fun pins s σ H R I h => ?_⟩
  refine thn (he.run pins s σ H _ I h) fun u s1 ⟨x, H1, I1, rx, d, o, xs, ex, hd, q⟩ => ?_
  subst ex
  obtain rfl : u = Value.ref d := rx
  obtain ⟨hs, hgd, hx, es, ep, hdt, hsz, ent⟩ := frzX I1 hd
  refine iter_keys hs hgd hx hdt (pi_one (tk := s1.toks) I1 _ (turn_keysX _ hdt) ⟨_, Heap.get?_push_size _ rfl, rfl, ?_⟩ q)
  rw [hsz] <;> rfl
theorem walk_keysX : Walk (Itx P w d o xs) xs.length (fun H => H d = some (.frz o (DKO P w d xs))) (fun i H x H' => H' = H ∧ ∃ e : Ent, xs[i]? = some e ∧ x = .ref e.2.1) :=
  ⟨fun _ _ hi q => ⟨q, hi⟩, fun _ q => ⟨q, Nat.le_refl _⟩, fun _ _ _ _ _ _ y => y⟩
end
end D3

set_option Elab.async false
set_option linter.all false
set_option maxRecDepth 100000
set_option maxHeartbeats 2000000
namespace D3
open PySem PySem.Spec PyProof.Rows L2
section
variable {X : Cx} {pos : Pos}
theorem pe_dispX {k v : Expr} {tk tv : TE} (hu : X.A.units + 64 < cLine) (hk : PE X k tk) (hv : PE X v tv) : PE X (.Dict [some k] [v] pos) (tDispX X.prog X.w X.K tk tv) := by
  refine ⟨fun pins s σ H Q I q => ?_⟩
  have hn := I.hok.fresh (Nat.le_refl s.heap.objs.size)
  have I1 := I.laid (a := s.heap.objs.size) (h' := s.heap.push { cls := .type "dict", data := .dict #[] }) (t' := s.toks) (o := DKO X.prog X.w s.heap.objs.size []) (fun _ _ z => Heap.get?_push_of_some _ z) (Nat.le_refl _) (new_ok s.heap I.big)
  have PP := pps_cons (pos := pos) hk hv pps_nil
  have hl : (pairTrees [some k] [v] X.env pos).length = 1 := pairTrees_length [some k] [v] X.env pos rfl rfl
  rw [arm_eval_Dict, zip_pairTrees [some k] [v] X.env pos rfl rfl, dictDisplay_pairs (pairTrees [some k] [v] X.env pos) (fun z => by rw [z] at hl; cases hl) (by rw [hl]; decide)]
  refine wpAny_bind (wpAny_standAt (wpAny_bind (wpAny_subDictH (knd := nestedKind X.prog X.w) (Q := fun d s1 => wpAny (model X.prog X.w) X.A (pure (Value.ref d)) _ _ s1) (show X.A.units + 8 < cLine by omega) (by rw [hl]; decide)
    (thn (PP.run pins _ σ _ (fun ps H2 => ∃ (b : Addr) (kd : PyData) (vx : V), ps = [(.ref b, vx)] ∧ KeyOk X.K H2 kd b ∧ H2 s.heap.objs.size = some (DKO X.prog X.w s.heap.objs.size []) ∧ Q (.ref s.heap.objs.size) (upd H2 s.heap.objs.size (DKO X.prog X.w s.heap.objs.size [(kd, b, vx)]))) I1 ?_) fun ws s2 ⟨ps, H2, I2, rel, z⟩ => ?_))))
  · exact q _ hn
  · obtain ⟨b, kd, vx, rfl, hb, hd, q2⟩ := z
    cases rel with
    | @cons _ y _ _ r t =>
      cases t
      obtain ⟨y1, y2⟩ := y
      obtain ⟨r1, r2⟩ := r
      cases (show y1 = Value.ref b from r1)
      have R := dko_get I2 hd
      obtain ⟨ys, pr, hm⟩ := dko_of I2 R (fun x hx => by cases hx)
      cases pr
      refine ⟨[(nk kd, b, y2)], ⟨rfl, rfl, key_is I2 hb, trivial⟩, hm, fun h1 tk1 hm1 sb => wpAny_pure ⟨.ref _, _, ?_, rfl, q2⟩⟩
      have R1 : dkφ X.prog X.w s.heap.objs.size [(kd, b, vx)] h1 := by
        obtain ⟨o, es, ep, g1, g2, g3, g4, _, g6⟩ := hm1
        exact ⟨R.1, (by decide : 1 ≤ sizeLine), [(nk kd, b, y2)], .cons ⟨rfl, rfl, r2⟩ .nil, o, es, ep, g1, g2, g3, g4, g6⟩
      have he : ∃ u, h1.get? s.heap.objs.size = some u := let ⟨o, _, _, g1, _⟩ := hm1; ⟨o, g1⟩
      exact I2.write (e := s.heap.objs.size) (t' := tk1) (by rw [hd]; trivial) (.inl rfl) (fun c ob hc z => (sb.2 c hc).trans z) he (dko_ok R1)
/-- a tuple's display; its object is known to hold no dict -/
def tTupF (t : TA) : TE := fun σ H Q => t σ H fun xs H1 => xs.length ≤ sizeLine ∧ ∀ p o, H1 p = none → o.dict = none → Q (.ref p) (upd H1 p (.frz o (.tup xs)))
theorem pe_tupF {es : List Expr} {t : TA} {x1} (h : PA X es t) : PE X (.Tuple es x1 pos) (tTupF t) := by
  refine ⟨fun pins s σ H Q I hq => ?_⟩
  refine wpAny_Tuple_spliced (thn (h.run pos pins s σ H _ I hq) fun us s1 ⟨xs, H1, I1, r, z, q⟩ => ⟨by rw [← r.length]; exact z, ?_⟩)
  have hf : H1 s1.heap.objs.size = none := I1.hok.fresh (Nat.le_refl _)
  exact ⟨.ref s1.heap.objs.size, _, I1.laid (t' := s1.toks) (o := .frz { cls := .type "tuple", data := .seq us.toArray } (.tup xs)) (fun b u e => Heap.get?_push_of_some _ e) (Nat.le_refl _) ⟨Heap.get?_push_size _ rfl, z, us, r, ⟨_, Heap.get?_push_size _ rfl, rfl, _, rfl⟩⟩, rfl, q _ _ hf rfl⟩
/-- s + t, alike -/
def rCatF (K : PySem.W.Frag) : R2 := fun x y H Q => ∃ (a b : Addr) (xs ys : List V), x = .ref a ∧ y = .ref b ∧ SqT K H a xs ∧ SqT K H b ys ∧ xs.length + ys.length ≤ sizeLine ∧ (xs = [] → Q (.ref b) H) ∧ (xs ≠ [] → ys = [] → Q (.ref a) H) ∧
  (xs ≠ [] → ys ≠ [] → ∀ p o, H p = none → o.dict = none → Q (.ref p) (upd H p (.frz o (.tup (xs ++ ys)))))
theorem op_catF : OpR X (binaryOp .Add) (rCatF X.K) := by
  intro pins s σ H x y v u Q I rx ry h
  obtain ⟨a, b, xs, ys, rfl, rfl, ha, hb, hz, q0, q1, q2⟩ := h
  cases rx
  cases ry
  obtain ⟨its, r1, p1, _⟩ := I.tuple ha
  obtain ⟨its2, r2, p2, _⟩ := I.tuple hb
  by_cases hx : xs = []
  · subst hx
    cases r1
    exact cat_tup0 p1 p2 ⟨.ref b, H, I, rfl, q0 rfl⟩
  · refine HT.cat_tup p1 p2 (fun z => hx (r1.nil_iff.mp z)) (fun z => ⟨.ref a, H, I, rfl, q1 hx (r2.nil_iff.mp z)⟩) (fun z => ?_) (by rw [← r1.length, ← r2.length]; exact hz)
    exact ⟨.ref s.heap.objs.size, _, I.laid (t' := s.toks) (o := .frz { cls := .type "tuple", data := .seq (its ++ its2).toArray } (.tup (xs ++ ys))) (fun c ob e => Heap.get?_push_of_some _ e) (Nat.le_refl _) ⟨Heap.get?_push_size _ rfl, by rw [List.length_append]; exact hz, _, r1.append r2, IsTup.new _ _⟩, rfl, q2 hx (fun e => z (r2.nil_iff.mpr e)) _ _ (I.hok.fresh (Nat.le_refl _)) rfl⟩
/-- a tuple that holds no dict -/
def TupN (H : Hp) (p : Addr) (xs : List V) : Prop := ∃ o : Obj, o.dict = none ∧ H p = some (.frz o (.tup xs))
def tBMF (r : V → List V → Hp → VK → Prop) (to : TE) (t : TA) : TE := fun σ H Q => to σ H fun x H1 => (∃ p xs, x = .ref p ∧ TupN H1 p xs) ∧ t σ H1 fun ys H2 => r x ys H2 Q
theorem pe_bmF {o e : Expr} {es : List Expr} {to : TE} {t : TA} {name : Str} {id : String} {r : V → List V → Hp → VK → Prop} {apos cpos : Pos} (slot : Slot "tuple" name id) (hty : typeOf (.builtin id) = pure (.type "method_descriptor")) (hm : MtR X id r) (ho : PE X o to) (ha : PA X (e :: es) t)
    (hbase : attributeBase o name X.env (eval o X.env) = eval o X.env := by rfl)
    (hfew : ((backTo cpos (starEach (e :: es) X.env)).all (fun x => !x.1) && (backToKw cpos (keywordEach [] X.env)).all (fun x => x.1.isSome) && decide ((e :: es).length + ([] : List Keyword).length + (if ([] : List Keyword).isEmpty then 0 else 1) < 30)) = true := by rfl)
    (hline : (apos.endLine == cpos.line) = true := by rfl) (hs : starEach (e :: es) X.env = (false, eval e X.env) :: starEach es X.env := by rfl) (hplain : (backTo cpos (starEach es X.env)).any (·.1) = false := by rfl) :
    PE X (.Call (.Attribute o name apos) (e :: es) [] cpos) (tBMF r to t) := by
  refine ⟨fun pins s σ H Q I h => ?_⟩
  refine wpAny_Call_method_late hbase hfew hline rfl (thn (ho.run pins s σ H _ I h) fun v s1 ⟨x, H1, I1, r1, ty, q1⟩ => ?_)
  obtain ⟨p, xs, rfl, ob, od, hp⟩ := ty
  cases r1
  obtain ⟨g1, _, its, _, o2, g2, c2, _⟩ := I1.hok p _ hp
  rw [g1] at g2
  cases g2
  refine ⟨"tuple", id, F.plainAttrs_tuple, slot, hty, ⟨_, g1, c2⟩, fun a e => by cases e; exact ⟨_, g1, od⟩, ?_⟩
  have hA := ha.run cpos pins s1 σ H1 _ I1 q1
  rw [hs] at hA ⊢
  refine Calls.callWith_builtin (by show (false || (backTo cpos (starEach es X.env)).any (·.1)) = false; rw [hplain] <;> rfl) (Calls.evalArgs_plain ?_)
  exact thn hA fun us s2 ⟨vs, H2, I2, r2, q2⟩ => hm pins s2 σ H2 (.ref p) vs (.ref p) us Q I2 rfl r2 q2
def rTCnt (K : PySem.W.Frag) : V → List V → Hp → VK → Prop := fun x xs H Q => ∃ (p : Addr) (ns : List Int) (k : Int), x = .ref p ∧ xs = [.int k] ∧ SqT K H p (ns.map V.int) ∧ Q (.int (ns.count k : Nat)) H
theorem mt_tcount : MtR X "tuple.count" (rTCnt X.K) := by
  intro pins s σ H x xs v us Q I rx rxs h
  obtain ⟨p, ns, k, rfl, rfl, hs, q⟩ := h
  cases rx
  obtain ⟨u, rfl, ru⟩ := rxs.one
  obtain ⟨t, rfl⟩ := ru
  obtain ⟨its, rv, ⟨⟨cls, dd, data, sl⟩, ho, hc, n, hd⟩, hlen⟩ := I.tuple hs
  simp only at hc hd; subst hc hd
  have hi := ints_of_vals rv
  refine call_meets PySem.F.slot_tuple_count ⟨_, ho, rfl⟩ PySem.F.entry_tuple_count (PySem.F.args_tuple_count_2 _ _) (SeqAt.tuple_countAt p its.toArray n dd sl (.int k t) (eqk k)) ⟨ho, fun y hy => (eqk_gives hi y (by simpa using hy)).at _ _, ?_⟩
  have ec : its.toArray.toList.countP (eqk k) = ns.count k := eqk_count hi
  refine ⟨.int (ns.count k : Nat), H, I.tok _, ⟨s.toks, ?_⟩, q⟩
  rw [ec]
end
end D3

set_option Elab.async false
set_option linter.all false
set_option maxRecDepth 100000
set_option maxHeartbeats 2000000
namespace D3
open PySem PySem.Spec PyProof.Rows L2
section
variable {X : Cx}
/-- a new list of alike data is sorted -/
theorem sort_new {pins : List (Addr × Obj)} {σ : L2.St} {H : Hp} {s : Shared} {xs : List V} {its : List Value} {ds : List PyData} {Q : VK} (hu : X.A.units + 64 < cLine) (I : Inv X pins σ H s) (rv : Vals xs its) (hd : DpAll X.K H xs ds) (hal : PySem.W.AllAlike ds) (hk : D2.SortK ds) (hdep : ∀ d ∈ ds, d.depth ≤ 60) (hz : xs.length ≤ sizeLine)
    (q : ∀ (ys : List V) (p : Addr), H p = none → DpAll X.K H ys (ds.mergeSort (D2.leD false)) → ys.Perm xs → Q (.ref p) (upd H p (.lst ys))) :
    wpAny (model X.prog X.w) X.A.in1.in1 (Builtin.«list.sort» ⟨[.ref s.heap.objs.size], []⟩) (fun f s1 => f = .done (.ret .none) ∧ EP X pins σ Q (.ref s.heap.objs.size) s1) X.xe { s with heap := s.heap.push (seqObj "list" its.toArray 0) } := by
  have len := D2.dpAll_len hd
  have zl : (xs.zip ds).map Prod.snd = ds := List.map_snd_zip (by omega)
  have zf : (xs.zip ds).map Prod.fst = xs := List.map_fst_zip (by omega)
  have at0 : (s.heap.push (seqObj "list" its.toArray 0)).get? s.heap.objs.size = some (seqObj "list" its.toArray 0) := Heap.get?_push_size _ rfl
  rw [PySem.W.plain_is_rev]
  have e := D2.each_vals rv len
  have er := D2.each_reads I rv hd
  have kp : ∀ (b : Addr) (o : Obj), s.heap.get? b = some o → (PySem.W.sortingHeap (s.heap.push (seqObj "list" its.toArray 0)) s.heap.objs.size its).get? b = some o := fun b o hb => PySem.W.sortingHeap_old (Nat.ne_of_lt (Heap.lt_size hb)) (Heap.get?_push_of_some _ hb)
  have er1 : PySem.W.EachIs (fun v (b : V × PyData) => ∃ as, Reads (PySem.W.sortingHeap (s.heap.push (seqObj "list" its.toArray 0)) s.heap.objs.size its) v b.2 as) its (xs.zip ds) := er.mono fun _ _ ⟨as, r⟩ => ⟨as, PyProof.Rows.Reads.keeps kp r⟩
  have S : PySem.W.SortsAt X.prog X.w X.A.in1.in1 { s with heap := PySem.W.sortingHeap (s.heap.push (seqObj "list" its.toArray 0)) s.heap.objs.size its } (PySem.W.dataKind (PySem.W.sortingHeap (s.heap.push (seqObj "list" its.toArray 0)) s.heap.objs.size its) ((xs.zip ds).map Prod.snd)) its := by
    refine D2.sortsAt2 (s := { s with heap := PySem.W.sortingHeap (s.heap.push (seqObj "list" its.toArray 0)) s.heap.objs.size its }) (PySem.W.each_map (R := fun v d => ∃ as, Reads (PySem.W.sortingHeap (s.heap.push (seqObj "list" its.toArray 0)) s.heap.objs.size its) v d as) Prod.snd er1) (by rw [zl]; exact hal) (by rw [zl]; exact hk) fun d hd2 => ?_
    rw [zl] at hd2
    have := hdep d hd2
    show X.A.units + 1 + 1 + d.depth < cLine
    omega
  refine PySem.W.list_sort_rev_vals (s := { s with heap := s.heap.push (seqObj "list" its.toArray 0) }) at0 S (by rw [← rv.length]; exact hz) ⟨rfl, ?_⟩
  have out := PySem.W.sortVals_data (h' := PySem.W.sortingHeap (s.heap.push (seqObj "list" its.toArray 0)) s.heap.objs.size its) false e er1 (by rw [zl]; exact hal)
  have rv2 := D2.vals_each out
  have pz : ((xs.zip ds).mergeSort (PySem.W.dataLe false Prod.snd)).Perm (xs.zip ds) := List.mergeSort_perm _ _
  have d2 : DpAll X.K H (((xs.zip ds).mergeSort (PySem.W.dataLe false Prod.snd)).map Prod.fst) (((xs.zip ds).mergeSort (PySem.W.dataLe false Prod.snd)).map Prod.snd) := D2.dpAll_of fun p hp => D2.dpAll_zip hd p (pz.mem_iff.mp hp)
  have es : ((xs.zip ds).mergeSort (PySem.W.dataLe false Prod.snd)).map Prod.snd = ds.mergeSort (D2.leD false) := by
    have z := PySem.W.sort_maps (r := PySem.W.dataLe false Prod.snd) (s := D2.leD false) Prod.snd (l := xs.zip ds) (fun a _ b _ => rfl)
    rw [zl] at z
    exact z
  rw [es] at d2
  have pf := pz.map Prod.fst
  rw [zf] at pf
  obtain ⟨ep, he⟩ := PyProof.Rows.sortedHeap_at (vs := its) (out := (PySem.W.sortVals (PySem.W.dataKind (PySem.W.sortingHeap (s.heap.push (seqObj "list" its.toArray 0)) s.heap.objs.size its) ((xs.zip ds).map Prod.snd)) false its its).toArray) at0
  refine ⟨.ref _, upd H s.heap.objs.size (.lst (((xs.zip ds).mergeSort (PySem.W.dataLe false Prod.snd)).map Prod.fst)), I.laid (t' := s.toks) (fun b u hb => ?_) (Nat.le_refl _) ⟨?_, _, ep, rv2, he⟩, rfl, q _ _ (I.hok.fresh (Nat.le_refl _)) d2 pf⟩
  · have lt := Heap.lt_size hb
    rw [PyProof.Rows.sortedHeap_old (Nat.ne_of_lt lt) (by rw [size_push']; exact Nat.lt_succ_of_lt lt)]
    exact Heap.get?_push_of_some _ hb
  · rw [pf.length_eq]
    exact hz
/-- sorted(d): the keys -/
def rSortX (P : Program) (w : World) (K : PySem.W.Frag) : List V → Hp → VK → Prop := fun vs H Q => ∃ (d : Addr) (o : Obj) (xs : List Ent), vs = [.ref d] ∧ H d = some (.frz o (DKO P w d xs)) ∧ KeysOk K H xs ∧ xs.length ≤ 1000000 ∧ PySem.W.AllAlike (xs.map (·.1)) ∧ D2.SortK (xs.map (·.1)) ∧ (∀ d ∈ xs.map (·.1), d.depth ≤ 60) ∧
  ∀ (ys : List V) (p : Addr), H p = none → DpAll K H ys ((xs.map (·.1)).mergeSort (D2.leD false)) → ys.Perm (xs.map fun x => V.ref x.2.1) → Q (.ref p) (upd H p (.lst ys))
theorem keys_dp {K : PySem.W.Frag} {H : Hp} : ∀ {xs : List Ent}, KeysOk K H xs → DpAll K H (xs.map fun x => V.ref x.2.1) (xs.map (·.1))
  | [], _ => .nil
  | x :: r, h => .cons (h x List.mem_cons_self).1 (keys_dp fun y hy => h y (List.mem_cons_of_mem _ hy))
theorem cr_sortX (hc : X.calm = true) (hu : X.A.units + 64 < cLine) : CallR X (.builtin "sorted") (rSortX X.prog X.w X.K) := by
  intro pins s σ H vs us Q I r h
  obtain ⟨d, o, xs, rfl, hd, hk, hl, hal, hso, hdep, q⟩ := h
  rw [Vals.ref1 r]
  obtain ⟨hs, hgd, hx, es, ep, hdt, hsz, ent⟩ := frzX I hd
  have z0 : xs.length ≤ sizeLine := by rw [sizeLine_eq]; omega
  refine Calls.call_function_entry PyProof.Rows.kind_sorted PyProof.Rows.plain_sorted PyProof.Rows.entry_sorted (PyProof.Rows.args_sorted1 _) ?_
  unfold Builtin.«sorted»
  refine wpAny_bind (m := checkCount "sorted" 1 1 _) (wpAny_pure (wpAny_bind (PySem.W.kdu_collect (PySem.KdlSrc.rawDict (es := es) (ep := ep) hs) (show X.A.in1.handled = none from I.ok.hd hc) ⟨o, hgd, hx, hdt⟩ (by rw [hsz]; exact z0) fun h1 tk acc k1 hacc => ?_)))
  have I1 : Inv X pins σ H { s with heap := h1, toks := tk } := I.kept k1
  have rv : Vals (xs.map fun x => V.ref x.2.1) acc.toList := by
    have el : acc.toList.length = acc.size := by simp
    refine vals_of_at (by rw [List.length_map, el, hacc.1, hsz]) fun j x w2 h5 h6 => ?_
    obtain ⟨hj, e6⟩ := hacc.2 j w2 (by rw [← Array.getElem?_toList]; exact h6)
    rw [List.getElem?_map] at h5
    cases he : xs[j]? with
    | none => rw [he] at h5; cases h5
    | some e =>
      rw [he] at h5
      cases h5
      obtain ⟨en, g1, g2, _⟩ := ent j e he
      rw [Array.getElem?_eq_getElem hj] at g1
      cases g1
      rw [e6, g2]
      rfl
  have hlen : acc.toList.length ≤ sizeLine := by rw [← rv.length, List.length_map]; exact z0
  refine wpAny_bind (wpAny_newList ?_ hlen)
  have at_ : (h1.push (seqObj "list" acc.toList.toArray 0)).get? h1.objs.size = some (seqObj "list" acc.toList.toArray 0) := Heap.get?_push_size _ rfl
  have z := sort_new (Q := Q) hu I1 rv (keys_dp hk) hal hso hdep (by rw [List.length_map]; exact z0) q
  refine wpAny_bind (wpAny_holding (wpAny_call_entry PyProof.Rows.slot_list_sort ⟨_, at_, rfl⟩ PyProof.Rows.entry_list_sort (thn z fun f s4 hf => ?_) (PyProof.Rows.args_list_sort _)))
  obtain ⟨rfl, hEP⟩ := hf
  exact ⟨_, rfl, wpAny_pure ⟨_, rfl, hEP⟩⟩
/-! the same, with the program and the world told -/
variable {P : Program} {w : World} {pos : Pos}
theorem pe_newY (hP : X.prog = P) (hw : X.w = w) : PE X (.Dict [] [] pos) (tNewX P w) := by subst hP hw; exact pe_newX
theorem ps_putY {o i value : Expr} {td ty tv : TE} {p1 : Pos} (hP : X.prog = P) (hw : X.w = w) (hu : X.A.units + 64 < cLine) (ho : PE X o td) (hi : PE X i ty) (hv : PE X value tv) (hs : swapsWith value (some (.Subscript o i p1)) pos.line X.env = pure false) :
    PS X (.Assign [.Subscript o i p1] value pos) (sPutX P w X.K td ty tv) := by subst hP hw; exact ps_putX hu ho hi hv hs
theorem pe_dispY {k v : Expr} {tk tv : TE} (hP : X.prog = P) (hw : X.w = w) (hu : X.A.units + 64 < cLine) (hk : PE X k tk) (hv : PE X v tv) : PE X (.Dict [some k] [v] pos) (tDispX P w X.K tk tv) := by subst hP hw; exact pe_dispX hu hk hv
theorem pi_keysY {tg e : Expr} {td : TE} (hP : X.prog = P) (hw : X.w = w) (he : PE X e td) : PI X tg e (iKeysX P w td) := by subst hP hw; exact pi_keysX he
theorem cr_sortY (hP : X.prog = P) (hw : X.w = w) (hc : X.calm = true) (hu : X.A.units + 64 < cLine) : CallR X (.builtin "sorted") (rSortX P w X.K) := by subst hP hw; exact cr_sortX hc hu
end
end D3

namespace Wr
open PySem PySem.Spec PyProof.Rows L2
def topS (i : Nat) : Stmt := PySem.Challenge.pw_wornrigs_k17_whole_best_trees.main.body.getD i (.Pass ⟨0, 0, 0, 0⟩)
abbrev s_is_leaf : Stmt := topS 1
abbrev N_is_leaf : List Str := ["tree"]
theorem sc_is_leaf : FnScope N_is_leaf ["tree"] (defScope s_is_leaf) := ⟨rfl, rfl, rfl, by decide +kernel, rfl, by decide +kernel, by decide +kernel⟩
abbrev s_strands : Stmt := topS 2
abbrev N_strands : List Str := ["tree", "child", "strand"]
theorem sc_strands : FnScope N_strands ["tree"] (defScope s_strands) := ⟨rfl, rfl, rfl, by decide +kernel, rfl, by decide +kernel, by decide +kernel⟩
abbrev s_strand_names : Stmt := topS 3
abbrev N_strand_names : List Str := ["rig", "name", "strength", "wear"]
theorem sc_strand_names : FnScope N_strand_names ["rig"] (defScope s_strand_names) := ⟨rfl, rfl, rfl, by decide +kernel, rfl, by decide +kernel, by decide +kernel⟩
abbrev s_strengths_after : Stmt := topS 4
abbrev N_strengths_after : List Str := ["rig", "lifts", "name", "strength", "wear"]
theorem sc_strengths_after : FnScope N_strengths_after ["rig", "lifts"] (defScope s_strengths_after) := ⟨rfl, rfl, rfl, by decide +kernel, rfl, by decide +kernel, by decide +kernel⟩
abbrev s_divisors : Stmt := topS 5
abbrev N_divisors : List Str := ["tree", "names", "parts", "sharing", "child", "part", "name"]
theorem sc_divisors : FnScope N_divisors ["tree", "names"] (defScope s_divisors) := ⟨rfl, rfl, rfl, by decide +kernel, rfl, by decide +kernel, by decide +kernel⟩
abbrev s_least_strength : Stmt := topS 6
abbrev N_least_strength : List Str := ["load", "divisor"]
theorem sc_least_strength : FnScope N_least_strength ["load", "divisor"] (defScope s_least_strength) := ⟨rfl, rfl, rfl, by decide +kernel, rfl, by decide +kernel, by decide +kernel⟩
abbrev s_unbroken : Stmt := topS 7
abbrev N_unbroken : List Str := ["divided", "strengths", "load", "name"]
theorem sc_unbroken : FnScope N_unbroken ["divided", "strengths", "load"] (defScope s_unbroken) := ⟨rfl, rfl, rfl, by decide +kernel, rfl, by decide +kernel, by decide +kernel⟩
abbrev s_settle : Stmt := topS 8
abbrev N_settle : List Str := ["rig", "names", "load", "lifts", "strengths", "divided", "whole"]
theorem sc_settle : FnScope N_settle ["rig", "names", "load", "lifts"] (defScope s_settle) := ⟨rfl, rfl, rfl, by decide +kernel, rfl, by decide +kernel, by decide +kernel⟩
abbrev s_lifts_until_worn : Stmt := topS 10
abbrev N_lifts_until_worn : List Str := ["strand", "divisor", "load", "name", "strength", "wear"]
theorem sc_lifts_until_worn : FnScope N_lifts_until_worn ["strand", "divisor", "load"] (defScope s_lifts_until_worn) := ⟨rfl, rfl, rfl, by decide +kernel, rfl, by decide +kernel, by decide +kernel⟩
abbrev s_repeats : Stmt := topS 11
abbrev N_repeats : List Str := ["rig", "load", "count", "names", "divided", "counts", "limits", "strand", "limit"]
theorem sc_repeats : FnScope N_repeats ["rig", "load"] (defScope s_repeats) := ⟨rfl, rfl, rfl, by decide +kernel, rfl, by decide +kernel, by decide +kernel⟩
abbrev s_repeat_count : Stmt := topS 12
abbrev N_repeat_count : List Str := ["rig", "load", "count", "names"]
theorem sc_repeat_count : FnScope N_repeat_count ["rig", "load"] (defScope s_repeat_count) := ⟨rfl, rfl, rfl, by decide +kernel, rfl, by decide +kernel, by decide +kernel⟩
abbrev s_trees_with : Stmt := topS 14
abbrev N_trees_with : List Str := ["tree", "strand", "found", "at", "child", "grown"]
theorem sc_trees_with : FnScope N_trees_with ["tree", "strand"] (defScope s_trees_with) := ⟨rfl, rfl, rfl, by decide +kernel, rfl, by decide +kernel, by decide +kernel⟩
abbrev s_all_trees : Stmt := topS 15
abbrev N_all_trees : List Str := ["strands", "trees", "strand", "tree", "grown"]
theorem sc_all_trees : FnScope N_all_trees ["strands"] (defScope s_all_trees) := ⟨rfl, rfl, rfl, by decide +kernel, rfl, by decide +kernel, by decide +kernel⟩
abbrev s_best_tree : Stmt := topS 16
abbrev N_best_tree : List Str := ["strands", "load", "best_count", "best", "tree", "count"]
theorem sc_best_tree : FnScope N_best_tree ["strands", "load"] (defScope s_best_tree) := ⟨rfl, rfl, rfl, by decide +kernel, rfl, by decide +kernel, by decide +kernel⟩
abbrev s_is_between : Stmt := topS 20
abbrev N_is_between : List Str := ["value", "low", "high"]
theorem sc_is_between : FnScope N_is_between ["value", "low", "high"] (defScope s_is_between) := ⟨rfl, rfl, rfl, by decide +kernel, rfl, by decide +kernel, by decide +kernel⟩
abbrev s_is_name : Stmt := topS 21
abbrev N_is_name : List Str := ["value"]
theorem sc_is_name : FnScope N_is_name ["value"] (defScope s_is_name) := ⟨rfl, rfl, rfl, by decide +kernel, rfl, by decide +kernel, by decide +kernel⟩
abbrev s_is_strand : Stmt := topS 22
abbrev N_is_strand : List Str := ["value", "name", "strength", "wear"]
theorem sc_is_strand : FnScope N_is_strand ["value"] (defScope s_is_strand) := ⟨rfl, rfl, rfl, by decide +kernel, rfl, by decide +kernel, by decide +kernel⟩
abbrev s_is_rig : Stmt := topS 23
abbrev N_is_rig : List Str := ["value", "names", "waiting", "part"]
theorem sc_is_rig : FnScope N_is_rig ["value"] (defScope s_is_rig) := ⟨rfl, rfl, rfl, by decide +kernel, rfl, by decide +kernel, by decide +kernel⟩
abbrev s__law_cell : Stmt := topS 25
abbrev N__law_cell : List Str := ["script", "index"]
theorem sc__law_cell : FnScope N__law_cell ["script", "index"] (defScope s__law_cell) := ⟨rfl, rfl, rfl, by decide +kernel, rfl, by decide +kernel, by decide +kernel⟩
abbrev s__law_digits : Stmt := topS 26
abbrev N__law_digits : List Str := ["script", "index", "count", "base", "primes", "cell", "rest", "digits", "k", "mixed"]
theorem sc__law_digits : FnScope N__law_digits ["script", "index", "count", "base"] (defScope s__law_digits) := ⟨rfl, rfl, rfl, by decide +kernel, rfl, by decide +kernel, by decide +kernel⟩
abbrev s__law_strands : Stmt := topS 27
abbrev N__law_strands : List Str := ["tree", "strands_v", "child"]
theorem sc__law_strands : FnScope N__law_strands ["tree"] (defScope s__law_strands) := ⟨rfl, rfl, rfl, by decide +kernel, rfl, by decide +kernel, by decide +kernel⟩
abbrev s__law_divisors : Stmt := topS 28
abbrev N__law_divisors : List Str := ["tree", "names", "parts", "part", "result", "name", "child"]
theorem sc__law_divisors : FnScope N__law_divisors ["tree", "names"] (defScope s__law_divisors) := ⟨rfl, rfl, rfl, by decide +kernel, rfl, by decide +kernel, by decide +kernel⟩
abbrev s__law_subsets : Stmt := topS 29
abbrev N__law_subsets : List Str := ["items", "subsets", "item", "size", "subset"]
theorem sc__law_subsets : FnScope N__law_subsets ["items"] (defScope s__law_subsets) := ⟨rfl, rfl, rfl, by decide +kernel, rfl, by decide +kernel, by decide +kernel⟩
abbrev s__law_supports : Stmt := topS 30
abbrev N__law_supports : List Str := ["rig", "subset", "load", "lifts", "divisors_v", "name", "power", "wear"]
theorem sc__law_supports : FnScope N__law_supports ["rig", "subset", "load", "lifts"] (defScope s__law_supports) := ⟨rfl, rfl, rfl, by decide +kernel, rfl, by decide +kernel, by decide +kernel⟩
abbrev s__law_groupings : Stmt := topS 31
abbrev N__law_groupings : List Str := ["items", "result", "item", "longer", "row", "k"]
theorem sc__law_groupings : FnScope N__law_groupings ["items"] (defScope s__law_groupings) := ⟨rfl, rfl, rfl, by decide +kernel, rfl, by decide +kernel, by decide +kernel⟩
abbrev s__law_trees : Stmt := topS 32
abbrev N__law_trees : List Str := ["leaves", "trees", "groups", "rows", "group", "longer", "row", "tree"]
theorem sc__law_trees : FnScope N__law_trees ["leaves"] (defScope s__law_trees) := ⟨rfl, rfl, rfl, by decide +kernel, rfl, by decide +kernel, by decide +kernel⟩
abbrev s__law_repeats : Stmt := topS 33
abbrev N__law_repeats : List Str := ["rig", "load", "best", "subset", "count", "strand"]
theorem sc__law_repeats : FnScope N__law_repeats ["rig", "load"] (defScope s__law_repeats) := ⟨rfl, rfl, rfl, by decide +kernel, rfl, by decide +kernel, by decide +kernel⟩
abbrev s_law : Stmt := topS 34
abbrev N_law : List Str := ["script", "index", "digits", "leaves", "k", "name", "wear", "total", "load", "count", "tree", "strand", "one"]
theorem sc_law : FnScope N_law ["script"] (defScope s_law) := ⟨rfl, rfl, rfl, by decide +kernel, rfl, by decide +kernel, by decide +kernel⟩
structure Gx (K : PySem.W.Frag) (mg : Str → Option Value) where
  f_is_leaf : Addr
  fd_is_leaf : FuncData
  F_is_leaf : Fun K "is_leaf" "is_leaf" s_is_leaf f_is_leaf fd_is_leaf
  b_is_leaf : Binds K fd_is_leaf ["tree"] []
  m_is_leaf : mg "is_leaf" = some (.ref f_is_leaf)
  f_strands : Addr
  fd_strands : FuncData
  F_strands : Fun K "strands" "strands" s_strands f_strands fd_strands
  b_strands : Binds K fd_strands ["tree"] []
  m_strands : mg "strands" = some (.ref f_strands)
  f_strand_names : Addr
  fd_strand_names : FuncData
  F_strand_names : Fun K "strand_names" "strand_names" s_strand_names f_strand_names fd_strand_names
  b_strand_names : Binds K fd_strand_names ["rig"] []
  m_strand_names : mg "strand_names" = some (.ref f_strand_names)
  f_strengths_after : Addr
  fd_strengths_after : FuncData
  F_strengths_after : Fun K "strengths_after" "strengths_after" s_strengths_after f_strengths_after fd_strengths_after
  b_strengths_after : Binds K fd_strengths_after ["rig", "lifts"] []
  m_strengths_after : mg "strengths_after" = some (.ref f_strengths_after)
  f_divisors : Addr
  fd_divisors : FuncData
  F_divisors : Fun K "divisors" "divisors" s_divisors f_divisors fd_divisors
  b_divisors : Binds K fd_divisors ["tree", "names"] []
  m_divisors : mg "divisors" = some (.ref f_divisors)
  f_least_strength : Addr
  fd_least_strength : FuncData
  F_least_strength : Fun K "least_strength" "least_strength" s_least_strength f_least_strength fd_least_strength
  b_least_strength : Binds K fd_least_strength ["load", "divisor"] []
  m_least_strength : mg "least_strength" = some (.ref f_least_strength)
  f_unbroken : Addr
  fd_unbroken : FuncData
  F_unbroken : Fun K "unbroken" "unbroken" s_unbroken f_unbroken fd_unbroken
  b_unbroken : Binds K fd_unbroken ["divided", "strengths", "load"] []
  m_unbroken : mg "unbroken" = some (.ref f_unbroken)
  f_settle : Addr
  fd_settle : FuncData
  F_settle : Fun K "settle" "settle" s_settle f_settle fd_settle
  b_settle : Binds K fd_settle ["rig", "names", "load", "lifts"] []
  m_settle : mg "settle" = some (.ref f_settle)
  f_lifts_until_worn : Addr
  fd_lifts_until_worn : FuncData
  F_lifts_until_worn : Fun K "lifts_until_worn" "lifts_until_worn" s_lifts_until_worn f_lifts_until_worn fd_lifts_until_worn
  b_lifts_until_worn : Binds K fd_lifts_until_worn ["strand", "divisor", "load"] []
  m_lifts_until_worn : mg "lifts_until_worn" = some (.ref f_lifts_until_worn)
  f_repeats : Addr
  fd_repeats : FuncData
  F_repeats : Fun K "repeats" "repeats" s_repeats f_repeats fd_repeats
  b_repeats : Binds K fd_repeats ["rig", "load"] []
  m_repeats : mg "repeats" = some (.ref f_repeats)
  f_repeat_count : Addr
  fd_repeat_count : FuncData
  F_repeat_count : Fun K "repeat_count" "repeat_count" s_repeat_count f_repeat_count fd_repeat_count
  b_repeat_count : Binds K fd_repeat_count ["rig", "load"] []
  m_repeat_count : mg "repeat_count" = some (.ref f_repeat_count)
  f_trees_with : Addr
  fd_trees_with : FuncData
  F_trees_with : Fun K "trees_with" "trees_with" s_trees_with f_trees_with fd_trees_with
  b_trees_with : Binds K fd_trees_with ["tree", "strand"] []
  m_trees_with : mg "trees_with" = some (.ref f_trees_with)
  f_all_trees : Addr
  fd_all_trees : FuncData
  F_all_trees : Fun K "all_trees" "all_trees" s_all_trees f_all_trees fd_all_trees
  b_all_trees : Binds K fd_all_trees ["strands"] []
  m_all_trees : mg "all_trees" = some (.ref f_all_trees)
  f_best_tree : Addr
  fd_best_tree : FuncData
  F_best_tree : Fun K "best_tree" "best_tree" s_best_tree f_best_tree fd_best_tree
  b_best_tree : Binds K fd_best_tree ["strands", "load"] []
  m_best_tree : mg "best_tree" = some (.ref f_best_tree)
  f_is_between : Addr
  fd_is_between : FuncData
  F_is_between : Fun K "is_between" "is_between" s_is_between f_is_between fd_is_between
  b_is_between : Binds K fd_is_between ["value", "low", "high"] []
  m_is_between : mg "is_between" = some (.ref f_is_between)
  f_is_name : Addr
  fd_is_name : FuncData
  F_is_name : Fun K "is_name" "is_name" s_is_name f_is_name fd_is_name
  b_is_name : Binds K fd_is_name ["value"] []
  m_is_name : mg "is_name" = some (.ref f_is_name)
  f_is_strand : Addr
  fd_is_strand : FuncData
  F_is_strand : Fun K "is_strand" "is_strand" s_is_strand f_is_strand fd_is_strand
  b_is_strand : Binds K fd_is_strand ["value"] []
  m_is_strand : mg "is_strand" = some (.ref f_is_strand)
  f_is_rig : Addr
  fd_is_rig : FuncData
  F_is_rig : Fun K "is_rig" "is_rig" s_is_rig f_is_rig fd_is_rig
  b_is_rig : Binds K fd_is_rig ["value"] []
  m_is_rig : mg "is_rig" = some (.ref f_is_rig)
  f__law_cell : Addr
  fd__law_cell : FuncData
  F__law_cell : Fun K "_law_cell" "_law_cell" s__law_cell f__law_cell fd__law_cell
  b__law_cell : Binds K fd__law_cell ["script", "index"] []
  m__law_cell : mg "_law_cell" = some (.ref f__law_cell)
  f__law_digits : Addr
  fd__law_digits : FuncData
  F__law_digits : Fun K "_law_digits" "_law_digits" s__law_digits f__law_digits fd__law_digits
  b__law_digits : Binds K fd__law_digits ["script", "index", "count", "base"] []
  m__law_digits : mg "_law_digits" = some (.ref f__law_digits)
  f__law_strands : Addr
  fd__law_strands : FuncData
  F__law_strands : Fun K "_law_strands" "_law_strands" s__law_strands f__law_strands fd__law_strands
  b__law_strands : Binds K fd__law_strands ["tree"] []
  m__law_strands : mg "_law_strands" = some (.ref f__law_strands)
  f__law_divisors : Addr
  fd__law_divisors : FuncData
  F__law_divisors : Fun K "_law_divisors" "_law_divisors" s__law_divisors f__law_divisors fd__law_divisors
  b__law_divisors : Binds K fd__law_divisors ["tree", "names"] []
  m__law_divisors : mg "_law_divisors" = some (.ref f__law_divisors)
  f__law_subsets : Addr
  fd__law_subsets : FuncData
  F__law_subsets : Fun K "_law_subsets" "_law_subsets" s__law_subsets f__law_subsets fd__law_subsets
  b__law_subsets : Binds K fd__law_subsets ["items"] []
  m__law_subsets : mg "_law_subsets" = some (.ref f__law_subsets)
  f__law_supports : Addr
  fd__law_supports : FuncData
  F__law_supports : Fun K "_law_supports" "_law_supports" s__law_supports f__law_supports fd__law_supports
  b__law_supports : Binds K fd__law_supports ["rig", "subset", "load", "lifts"] []
  m__law_supports : mg "_law_supports" = some (.ref f__law_supports)
  f__law_groupings : Addr
  fd__law_groupings : FuncData
  F__law_groupings : Fun K "_law_groupings" "_law_groupings" s__law_groupings f__law_groupings fd__law_groupings
  b__law_groupings : Binds K fd__law_groupings ["items"] []
  m__law_groupings : mg "_law_groupings" = some (.ref f__law_groupings)
  f__law_trees : Addr
  fd__law_trees : FuncData
  F__law_trees : Fun K "_law_trees" "_law_trees" s__law_trees f__law_trees fd__law_trees
  b__law_trees : Binds K fd__law_trees ["leaves"] []
  m__law_trees : mg "_law_trees" = some (.ref f__law_trees)
  f__law_repeats : Addr
  fd__law_repeats : FuncData
  F__law_repeats : Fun K "_law_repeats" "_law_repeats" s__law_repeats f__law_repeats fd__law_repeats
  b__law_repeats : Binds K fd__law_repeats ["rig", "load"] []
  m__law_repeats : mg "_law_repeats" = some (.ref f__law_repeats)
  f_law : Addr
  fd_law : FuncData
  F_law : Fun K "law" "law" s_law f_law fd_law
  b_law : Binds K fd_law ["script"] []
  m_law : mg "law" = some (.ref f_law)
  c_strand_names : Addr
  p_strand_names : Addr
  FC_strand_names : FunC K "strand_names" "strand_names" s_strand_names f_strand_names fd_strand_names c_strand_names
  c_is_name : Addr
  p_is_name : Addr
  FC_is_name : FunC K "is_name" "is_name" s_is_name f_is_name fd_is_name c_is_name
  t_MOST_STRANDS : Tok
  c_MOST_STRANDS : mg "MOST_STRANDS" = some (.int 6 t_MOST_STRANDS)
  t_LARGEST_WEAR : Tok
  c_LARGEST_WEAR : mg "LARGEST_WEAR" = some (.int 20 t_LARGEST_WEAR)
  all : mg "all" = none
  bool : mg "bool" = none
  enumerate : mg "enumerate" = none
  int : mg "int" = none
  isinstance : mg "isinstance" = none
  len : mg "len" = none
  list : mg "list" = none
  max : mg "max" = none
  min : mg "min" = none
  range : mg "range" = none
  sorted : mg "sorted" = none
  str : mg "str" = none
  sum : mg "sum" = none
  tuple : mg "tuple" = none
end Wr

set_option Elab.async false
set_option linter.all false
set_option maxRecDepth 100000
set_option maxHeartbeats 2000000
namespace Wr
open PySem PySem.Spec PyProof.Rows L2
section
variable {P : Program} {w : World} {K : PySem.W.Frag} {mg : Str → Option Value} {base : Heap}
/-! ### _law_cell: some int -/
def spCell (K : PySem.W.Frag) : Sp := fun vs H Q _ => ∃ (a : Addr) (ns : List Int) (i : Int), vs = [.ref a, .int i] ∧ SqL K H a (ns.map V.int) ∧ ns.length ≤ 63 ∧ 0 ≤ i ∧ i ≤ 1000 ∧ ∀ n : Int, Q (.int n) H
theorem ok_cell (G : Gx K mg) (k : Nat) : FnOk P w K mg base CX0 (k + 1) G.f__law_cell G.fd__law_cell ["script", "index"] (spCell K) := by
  refine G.F__law_cell.ok sc__law_cell (fun vs H Q E h => ?_) (fun cdv A outer s H vs Q E hr h => ?_)
  · obtain ⟨a, ns, i, rfl, _⟩ := h
    rfl
  obtain ⟨a, ns, i, rfl, hS, h63, h0, h1, q⟩ := h
  refine ⟨_, (pss_cons (ps_if (pt_cmpR op_lt (pv 1) (pe_callB call_len_seq (by rfl) G.len PySem.boot_len (pa_cons (pv 0) pa_nil)) (nomark _)) (pss_one (ps_ret (pe_ix ix_list (pv 0) (pv 1) (fun _ _ => rfl)))) pss_nil)
    (pss_cons (ps_if (pt_cmpR op_eq (pe_callB call_len_seq (by rfl) G.len PySem.boot_len (pa_cons (pv 0) pa_nil)) pe_int (nomark _)) (pss_one (ps_ret (pe_op op_add (pe_op op_mul pe_int (pv 1)) pe_int))) pss_nil)
    (pss_one (ps_ret (pe_op op_add (pe_op op_mod (pe_ix ix_list (pv 0) (pe_op op_mod (pv 1) (pe_callB call_len_seq (by rfl) G.len PySem.boot_len (pa_cons (pv 0) pa_nil))) (fun _ _ => rfl)) pe_int) (pe_op op_mul pe_int (pv 1))))))), ?_⟩
  have hl : (ns.map V.int).length = ns.length := List.length_map _
  refine ⟨_, rfl, _, rfl, a, _, rfl, .inl hS, _, _, rfl, rfl, _, rfl, ?_⟩
  refine ite2 (fun c => ?_) (fun c => ?_)
  · have c' : i < (((ns.map V.int).length : Nat) : Int) := of_decide_eq_true c
    rw [hl] at c'
    obtain ⟨n, _, _, hn⟩ := atI_ints h0 c'
    exact ⟨_, rfl, _, rfl, a, _, _, _, rfl, rfl, hS, hn, q _⟩
  · refine ⟨_, rfl, a, _, rfl, .inl hS, rfl, _, rfl, ?_⟩
    refine ite2 (fun c => ?_) (fun c => ?_)
    · exact ⟨_, rfl, _, _, rfl, rfl, .inl ⟨by decide, by decide⟩, _, _, rfl, rfl, q _⟩
    · have c' : ¬ (V.int (((ns.map V.int).length : Nat) : Int) = V.int 0) := fun e => c (decide_eq_true e)
      rw [hl] at c'
      have hp : (0 : Int) < (((ns.map V.int).length : Nat) : Int) := by
        rw [hl]
        have : (ns.length : Int) ≠ 0 := fun e => c' (by rw [e])
        omega
      obtain ⟨n, _, _, hn⟩ := atI_ints (ns := ns) (i := i % (((ns.map V.int).length : Nat) : Int)) (Int.emod_nonneg _ (by omega)) (by
        have := Int.emod_lt_of_pos i hp
        rw [hl] at this ⊢
        exact this)
      exact ⟨_, rfl, _, rfl, _, rfl, a, _, rfl, .inl hS, _, _, rfl, rfl, hp, a, _, _, _, rfl, rfl, hS, hn, _, _, rfl, rfl, (by decide : (0 : Int) < 1000003), _, rfl, _, _, rfl, rfl, .inl ⟨by decide, by decide⟩, _, _, rfl, rfl, q _⟩
end
end Wr

set_option Elab.async false
set_option linter.all false
set_option maxRecDepth 100000
set_option maxHeartbeats 2000000
namespace Wr
open PySem PySem.Spec PyProof.Rows L2
/-! ### _law_digits: a new list of so many digits below the base -/
def primesL : List Int := [2147483647, 2147483629, 2147483587, 2147483579, 2147483563, 2147483549, 2147483543, 2147483497]
theorem prime_mem : ∀ p ∈ primesL, 0 < p ∧ p < 2147483648 := by decide
theorem prime_at {i : Int} (h0 : 0 ≤ i) (h1 : i < 8) : ∃ p : Int, atI (primesL.map V.int) i = some (.int p) ∧ 0 < p ∧ p < 2147483648 := by
  obtain ⟨p, hm, _, ha⟩ := atI_ints (ns := primesL) h0 h1
  exact ⟨p, ha, prime_mem p hm⟩
section
variable {P : Program} {w : World} {K : PySem.W.Frag} {mg : Str → Option Value} {base : Heap}
def spDigits (K : PySem.W.Frag) : Sp := fun vs H Q _ => ∃ (a : Addr) (ns : List Int) (i c b : Int), vs = [.ref a, .int i, .int c, .int b] ∧ SqL K H a (ns.map V.int) ∧ ns.length ≤ 63 ∧ 0 ≤ i ∧ i ≤ 1000 ∧ 0 ≤ c ∧ c ≤ 1000 ∧ 0 < b ∧ b < 1073741824 ∧
  ∀ (ds : List Int) (p : Addr) (H' : Hp), ds.length = c.toNat → (∀ d ∈ ds, 0 ≤ d ∧ d < b) → Le H H' → H p = none → H' p = some (.lst (ds.map V.int)) → Q (.ref p) H'
theorem ok_digits (G : Gx K mg) (k : Nat) : FnOk P w K mg base CX0 (k + 2) G.f__law_digits G.fd__law_digits ["script", "index", "count", "base"] (spDigits K) := by
  have G__law_cell : FnOk P w K mg base CX0 (k + 1) G.f__law_cell G.fd__law_cell ["script", "index"] (spCell K) := ok_cell G k
  refine G.F__law_digits.ok sc__law_digits (fun vs H Q E h => ?_) (fun cdv A outer s H vs Q E hr h => ?_)
  · obtain ⟨a, ns, i, c, b, rfl, _⟩ := h
    rfl
  obtain ⟨a, ns, x, c, b, rfl, hS, h63, h0, h1, hc0, hc1, hb0, hb1, q⟩ := h
  refine ⟨_, (pss_cons (ps_set (i := 4) sc__law_digits.nd rfl (.inl rfl) (pe_tup (pa_cons pe_int (pa_cons pe_int (pa_cons pe_int (pa_cons pe_int (pa_cons pe_int (pa_cons pe_int (pa_cons pe_int (pa_cons pe_int pa_nil))))))))))
    (pss_cons (ps_set (i := 5) sc__law_digits.nd rfl (.inl rfl) (pe_call G__law_cell hr (by rfl) G.m__law_cell G.F__law_cell.kp G.b__law_cell .nil pass0 (pa_cons (pv 0) (pa_cons (pv 1) pa_nil))))
    (Evl.pss_cut (ps_set (i := 6) sc__law_digits.nd rfl (.inl rfl) (pe_ifExp (pt_cmpR op_ge (pv 5) (pe_op op_pow pe_int pe_int) (nomark _)) (pv 5) pe_int))
    (pss_cons (ps_set (i := 7) sc__law_digits.nd rfl (.inl rfl) (pe_lst pa_nil))
    (pss_cons (ps_for PassesOwn.never rfl (pi_range1 (by rfl) G.range (pa_cons (pv 2) pa_nil)) (pg_name (i := 8) sc__law_digits.nd rfl (.inl rfl))
      (pss_cons (ps_set (i := 9) sc__law_digits.nd rfl (.inl rfl) (pe_op op_mul (pe_op op_mod (pv 5) (pe_ix ix_tup (pv 4) (pe_op op_mod (pv 8) pe_int) (fun _ _ => rfl))) (pe_op op_add pe_int (pe_op op_mul (pe_op op_mul pe_int (pv 8)) (pv 8)))))
    (pss_cons (ps_set (i := 9) sc__law_digits.nd rfl (.inl rfl) (pe_op op_add (pe_op op_add (pv 9) (pe_op op_mul (pe_op op_mul pe_int (pe_op op_add (pv 8) pe_int)) (pe_op op_add (pv 8) pe_int))) (pe_op op_mul pe_int (pv 1))))
    (pss_cons (ps_set (i := 9) sc__law_digits.nd rfl (.inl rfl) (pe_op op_mod (pv 9) (pe_ix ix_tup (pv 4) (pe_op op_mod (pe_op op_add (pe_op op_mul pe_int (pv 8)) (pv 1)) pe_int) (fun _ _ => rfl))))
    (pss_cons (ps_set (i := 9) sc__law_digits.nd rfl (.inl rfl) (pe_op op_mod (pe_op op_mul (pe_op op_mul (pv 9) (pv 9)) (pv 9)) (pe_ix ix_tup (pv 4) (pe_op op_mod (pe_op op_add (pv 8) pe_int) pe_int) (fun _ _ => rfl))))
    (Evl.pss_cut (ps_if (pt_cmpR op_gt (pv 6) pe_int (nomark _)) (pss_one (ps_set (i := 9) sc__law_digits.nd rfl (.inl rfl) (pv 6))) pss_nil)
    (pss_cons (ps_expr (pe_bm PySem.F.plainAttrs_list PySem.F.slot_list_append PySem.F.type_list_append mt_append (pv 7) (pa_cons (pe_op op_mod (pv 9) (pv 3)) pa_nil)))
    (pss_one (ps_set (i := 6) sc__law_digits.nd rfl (.inl rfl) (pe_op op_fdiv (pv 6) (pv 3)))))))))))
    (pss_one (ps_ret (pv 7)))))))), ?_⟩
  refine ⟨(by decide : 8 ≤ sizeLine), fun t ht => ?_⟩
  have l1 : Le H (upd H t (.tup (primesL.map V.int))) := Le.new ht
  refine ⟨_, rfl, _, rfl, a, ns, x, rfl, l1.sql hS, h63, h0, h1, fun cell => ?_⟩
  refine ⟨fun σ' H' => ∃ r : Int, σ' = [some (.ref a), some (.int x), some (.int c), some (.int b), some (.ref t), some (.int cell), some (.int r), none, none, none] ∧ H' = upd H t (.tup (primesL.map V.int)), ?_, fun σ' H' hM => ?_⟩
  · refine ⟨_, rfl, _, _, rfl, rfl, ⟨by decide, by decide, by decide⟩, _, _, rfl, rfl, _, rfl, ?_⟩
    refine ite2 (fun _ => ?_) (fun _ => ?_)
    · exact ⟨_, rfl, _, rfl, rfl⟩
    · exact ⟨_, rfl, rfl⟩
  obtain ⟨r, rfl, rfl⟩ := hM
  refine ⟨Nat.zero_le _, fun p hp => ?_⟩
  have hp0 : H p = none := l1.dom _ hp
  have hpt : p ≠ t := fun e => by
    rw [e, upd_same] at hp
    cases hp
  refine ⟨_, rfl, c, rfl, by omega, by omega, ?_⟩
  refine for_range (lo := 0) (n := c.toNat) (fun i σ' H' => ∃ (r : Int) (y8 y9 : Option V) (ds : List Int), σ' = [some (.ref a), some (.int x), some (.int c), some (.int b), some (.ref t), some (.int cell), some (.int r), some (.ref p), y8, y9] ∧ ds.length = i ∧ (∀ d ∈ ds, 0 ≤ d ∧ d < b) ∧ Le H H' ∧ H' t = some (.tup (primesL.map V.int)) ∧ H' p = some (.lst (ds.map V.int))) ?_ ?_ ?_
  · exact ⟨r, none, none, [], rfl, rfl, by simp, l1.trans (Le.new hp), by rw [upd_ne hpt.symm]; exact upd_same, upd_same⟩
  · rintro i σ' H' hi ⟨r, y8, y9, ds, rfl, hd, hds, hl, h't, h'p⟩
    have hi0 : (0 : Int) ≤ 0 + (i : Int) := by omega
    have hi1 : (0 : Int) + (i : Int) ≤ 1000 := by omega
    generalize ek : (0 : Int) + (i : Int) = j at hi0 hi1
    obtain ⟨p1, e1, b1, b1'⟩ := prime_at (i := j % 8) (by omega) (by omega)
    obtain ⟨p2, e2, b2, b2'⟩ := prime_at (i := (3 * j + x) % 8) (by omega) (by omega)
    obtain ⟨p3, e3, b3, b3'⟩ := prime_at (i := (j + 5) % 8) (by omega) (by omega)
    have m1 := Int.emod_nonneg cell (show p1 ≠ 0 by omega)
    have m1' := Int.emod_lt_of_pos cell b1
    refine ⟨_, rfl, _, rfl, _, rfl, _, _, rfl, rfl, (by decide : (0 : Int) < 8), t, _, _, _, rfl, rfl, sqt h't, e1, _, _, rfl, rfl, b1, ?_⟩
    refine ⟨_, rfl, _, _, rfl, rfl, .inl ⟨by decide, by decide⟩, _, rfl, _, _, rfl, rfl, .inr ⟨by omega, by omega⟩, _, _, rfl, rfl, _, _, rfl, rfl, .inl ⟨by omega, by omega⟩, ?_⟩
    refine ⟨_, rfl, _, rfl, _, _, rfl, rfl, _, _, rfl, rfl, .inl ⟨by decide, by decide⟩, _, rfl, _, _, rfl, rfl, _, _, rfl, rfl, .inr ⟨by omega, by omega⟩, _, _, rfl, rfl, _, rfl, _, _, rfl, rfl, .inl ⟨by decide, by decide⟩, _, _, rfl, rfl, ?_⟩
    refine ⟨_, rfl, _, rfl, _, rfl, _, _, rfl, rfl, .inl ⟨by decide, by decide⟩, _, rfl, _, _, rfl, rfl, _, _, rfl, rfl, (by decide : (0 : Int) < 8), t, _, _, _, rfl, rfl, sqt h't, e2, _, _, rfl, rfl, b2, ?_⟩
    generalize ez : (cell % p1 * (48271 + 2 * j * j) + 7919 * (j + 1) * (j + 1) + 104729 * x) % p2 = z
    have z0 : 0 ≤ z := by rw [← ez]; exact Int.emod_nonneg _ (by omega)
    have z1 : z < p2 := by rw [← ez]; exact Int.emod_lt_of_pos _ b2
    refine ⟨_, rfl, _, rfl, _, _, rfl, rfl, .inl ⟨by omega, by omega⟩, _, rfl, _, _, rfl, rfl, .inr ⟨by omega, by omega⟩, _, rfl, _, rfl, _, _, rfl, rfl, _, _, rfl, rfl, (by decide : (0 : Int) < 8), t, _, _, _, rfl, rfl, sqt h't, e3, _, _, rfl, rfl, b3, ?_⟩
    refine ⟨fun σ2 H2 => ∃ m : Int, σ2 = [some (.ref a), some (.int x), some (.int c), some (.int b), some (.ref t), some (.int cell), some (.int r), some (.ref p), some (.int j), some (.int m)] ∧ H2 = H', ?_, fun σ2 H2 hM => ?_⟩
    · refine ⟨_, rfl, _, _, rfl, rfl, _, rfl, ite2 (fun _ => ?_) (fun _ => ?_)⟩
      · exact ⟨_, rfl, _, rfl, rfl⟩
      · exact ⟨_, rfl, rfl⟩
    obtain ⟨m, rfl, rfl⟩ := hM
    refine ⟨_, rfl, .inl ⟨rfl, _, sql h'p⟩, _, rfl, _, rfl, _, _, rfl, rfl, hb0, p, _, _, rfl, rfl, h'p, szlt (by rw [List.length_map]; omega), ?_⟩
    refine ⟨_, rfl, _, rfl, _, _, rfl, rfl, ⟨hb0, hb1⟩, ?_⟩
    refine ⟨_, _, _, ds ++ [m % b], rfl, by rw [List.length_append, hd]; rfl, fun d hdm => ?_, hl.mut hp0, by rw [upd_ne hpt.symm]; exact h't, by rw [upd_same, List.map_append]; rfl⟩
    rcases List.mem_append.mp hdm with hdm | hdm
    · exact hds d hdm
    · rw [List.mem_singleton.mp hdm]
      exact ⟨Int.emod_nonneg _ (by omega), Int.emod_lt_of_pos _ hb0⟩
  · rintro σ' H' ⟨r, y8, y9, ds, rfl, hd, hds, hl, h't, h'p⟩
    exact ⟨_, rfl, q ds p H' hd hds hl hp0 h'p⟩
end
end Wr

set_option Elab.async false
set_option linter.all false
set_option maxRecDepth 100000
set_option maxHeartbeats 2000000
namespace Wr
open PySem PySem.Spec PyProof.Rows L2
/-! ### trees -/
inductive T where
  | leaf (n : Str) (p w : Int)
  | node (ts : List T)
mutual
def T.data : T → PyData
  | .leaf n p w => .tuple [.str n, .int p, .int w]
  | .node ts => .tuple (T.dataL ts)
def T.dataL : List T → List PyData
  | [] => []
  | t :: r => t.data :: T.dataL r
end
mutual
def T.leaves : T → List (Str × Int × Int)
  | .leaf n p w => [(n, p, w)]
  | .node ts => T.leavesL ts
def T.leavesL : List T → List (Str × Int × Int)
  | [] => []
  | t :: r => t.leaves ++ T.leavesL r
end
mutual
def T.Ok : T → Prop
  | .leaf _ _ _ => True
  | .node ts => 2 ≤ ts.length ∧ T.OkL ts
def T.OkL : List T → Prop
  | [] => True
  | t :: r => t.Ok ∧ T.OkL r
end
theorem T.dataL_map : ∀ ts : List T, T.dataL ts = ts.map T.data
  | [] => rfl
  | t :: r => by rw [T.dataL, T.dataL_map r, List.map_cons]
theorem T.leavesL_flat : ∀ ts : List T, T.leavesL ts = ts.flatMap T.leaves
  | [] => rfl
  | t :: r => by rw [T.leavesL, T.leavesL_flat r, List.flatMap_cons]
theorem T.okL_all : ∀ {ts : List T}, T.OkL ts ↔ ∀ t ∈ ts, t.Ok
  | [] => ⟨fun _ t h => absurd h (by simp), fun _ => trivial⟩
  | t :: r => by
    rw [T.OkL, T.okL_all (ts := r)]
    constructor
    · intro ⟨a, b⟩ u hu
      rcases List.mem_cons.mp hu with e | e
      · rw [e]; exact a
      · exact b u e
    · exact fun h => ⟨h t (List.mem_cons_self ..), fun u hu => h u (List.mem_cons_of_mem _ hu)⟩
theorem T.leavesL_append (xs ys : List T) : T.leavesL (xs ++ ys) = T.leavesL xs ++ T.leavesL ys := by
  rw [T.leavesL_flat, T.leavesL_flat, T.leavesL_flat, List.flatMap_append]
/-! ### lists of data -/
section
variable {K : PySem.W.Frag} {H : Hp}
theorem dpAll_length : ∀ {vs : List V} {ds : List PyData}, DpAll K H vs ds → vs.length = ds.length
  | _, _, .nil => rfl
  | _, _, .cons _ r => by rw [List.length_cons, List.length_cons, dpAll_length r]
theorem dpAll_append : ∀ {vs us : List V} {ds es : List PyData}, DpAll K H vs ds → DpAll K H us es → DpAll K H (vs ++ us) (ds ++ es)
  | _, _, _, _, .nil, s => s
  | _, _, _, _, .cons h r, s => .cons h (dpAll_append r s)
theorem dpAll_take : ∀ (n : Nat) {vs : List V} {ds : List PyData}, DpAll K H vs ds → DpAll K H (vs.take n) (ds.take n)
  | 0, _, _, _ => .nil
  | _ + 1, _, _, .nil => .nil
  | n + 1, _, _, .cons h r => .cons h (dpAll_take n r)
theorem dpAll_drop : ∀ (n : Nat) {vs : List V} {ds : List PyData}, DpAll K H vs ds → DpAll K H (vs.drop n) (ds.drop n)
  | 0, _, _, r => r
  | _ + 1, _, _, .nil => .nil
  | n + 1, _, _, .cons _ r => dpAll_drop n r
theorem dpAll_get : ∀ {vs : List V} {ds : List PyData} {i : Nat} {d : PyData}, DpAll K H vs ds → ds[i]? = some d → ∃ v, vs[i]? = some v ∧ Dp K H v d
  | _, _, _, _, .nil, e => by simp at e
  | _, _, 0, d, .cons h r, e => by
    cases e
    exact ⟨_, rfl, h⟩
  | _, _, i + 1, d, .cons h r, e => dpAll_get (i := i) r e
theorem dpAll_getV : ∀ {vs : List V} {ds : List PyData} {i : Nat} {v : V}, DpAll K H vs ds → vs[i]? = some v → ∃ d, ds[i]? = some d ∧ Dp K H v d
  | _, _, _, _, .nil, e => by simp at e
  | _, _, 0, d, .cons h r, e => by
    cases e
    exact ⟨_, rfl, h⟩
  | _, _, i + 1, d, .cons h r, e => dpAll_getV (i := i) r e
end
/-! ### slices -/
theorem cut_to {xs : List V} {f : Int} (h0 : 0 ≤ f) : cutV xs none (some f) = xs.take f.toNat := by
  obtain ⟨n, rfl⟩ := Int.eq_ofNat_of_zero_le h0
  unfold cutV
  rw [HT.sIx_none, HT.sIx_nat, List.drop_zero, Nat.sub_zero, Int.toNat_natCast]
  by_cases h : n ≤ xs.length
  · rw [Nat.min_eq_left h]
  · rw [Nat.min_eq_right (by omega), List.take_of_length_le (Nat.le_refl _), List.take_of_length_le (by omega)]
theorem cut_from {xs : List V} {f : Int} (h0 : 0 ≤ f) : cutV xs (some f) none = xs.drop f.toNat := by
  obtain ⟨n, rfl⟩ := Int.eq_ofNat_of_zero_le h0
  unfold cutV
  rw [HT.sIx_none, HT.sIx_nat, Int.toNat_natCast]
  by_cases h : n ≤ xs.length
  · rw [Nat.min_eq_left h]
    exact List.take_of_length_le (by rw [List.length_drop]; omega)
  · rw [Nat.min_eq_right (by omega), List.drop_eq_nil_of_le (by omega), List.drop_eq_nil_of_le (by omega)]
    simp
theorem cut_mid {xs : List V} {f l : Int} (h0 : 0 ≤ f) (h1 : f ≤ l) : cutV xs (some f) (some l) = (xs.drop f.toNat).take (l.toNat - f.toNat) := by
  obtain ⟨n, rfl⟩ := Int.eq_ofNat_of_zero_le h0
  obtain ⟨m, rfl⟩ := Int.eq_ofNat_of_zero_le (show 0 ≤ l by omega)
  unfold cutV
  rw [HT.sIx_nat, HT.sIx_nat, Int.toNat_natCast, Int.toNat_natCast]
  by_cases h : n ≤ xs.length
  · rw [Nat.min_eq_left h]
    by_cases h2 : m ≤ xs.length
    · rw [Nat.min_eq_left h2]
    · rw [Nat.min_eq_right (by omega), List.take_of_length_le (by rw [List.length_drop]; omega), List.take_of_length_le (by rw [List.length_drop]; omega)]
  · rw [Nat.min_eq_right (by omega), List.drop_eq_nil_of_le (by omega), List.drop_eq_nil_of_le (by omega)]
    simp
/-- the digits: ints that are not negative -/
def Nn (ds : List Int) : Prop := ∀ d ∈ ds, 0 ≤ d
theorem nn_at {ds : List Int} (h : Nn ds) {i : Int} (h0 : 0 ≤ i) (h1 : i < ds.length) : ∃ n, 0 ≤ n ∧ n ∈ ds ∧ atI (ds.map V.int) i = some (.int n) := by
  obtain ⟨n, hm, _, ha⟩ := atI_ints h0 h1
  exact ⟨n, h n hm, hm, ha⟩
theorem mod_at {ds : List Int} (h : Nn ds) (hl : 0 < ds.length) {i : Int} : ∃ n, 0 ≤ n ∧ n ∈ ds ∧ atI (ds.map V.int) (i % (((ds.map V.int).length : Nat) : Int)) = some (.int n) := by
  rw [List.length_map]
  exact nn_at h (Int.emod_nonneg _ (by omega)) (Int.emod_lt_of_pos _ (by omega))
/-! ### _law_rig -/
def sixN : List Str := ["ax", "bo", "cy", "dot", "elk", "fig"]
theorem six_nd : sixN.Nodup := by decide +kernel
def LeafOk (x : Str × Int × Int) : Prop := x.1 ∈ sixN ∧ 1 ≤ x.2.1 ∧ x.2.1 ≤ 99 ∧ 0 ≤ x.2.2 ∧ x.2.2 ≤ 20
structure RigOk (n : Nat) (t : T) : Prop where
  ok : t.Ok
  pos : 0 < t.leaves.length
  len : t.leaves.length ≤ n
  nd : (t.leaves.map (·.1)).Nodup
  leaf : ∀ x ∈ t.leaves, LeafOk x
def leafT (x : Str × Int × Int) : T := .leaf x.1 x.2.1 x.2.2
theorem leavesL_leafT : ∀ lf : List (Str × Int × Int), T.leavesL (lf.map leafT) = lf
  | [] => rfl
  | x :: r => by
    rw [List.map_cons, T.leavesL, leavesL_leafT r]
    rfl
theorem okL_leafT (lf : List (Str × Int × Int)) : T.OkL (lf.map leafT) := by
  rw [T.okL_all]
  intro t ht
  obtain ⟨x, _, rfl⟩ := List.mem_map.mp ht
  trivial
theorem erase_perm {α : Type} : ∀ {l : List α} {k : Nat} {y : α}, l[k]? = some y → (y :: l.eraseIdx k).Perm l
  | [], _, _, h => by simp at h
  | a :: r, 0, y, h => by
    cases h
    exact .refl _
  | a :: r, k + 1, y, h => by
    have ih := erase_perm (l := r) (k := k) (y := y) h
    rw [List.eraseIdx_cons_succ]
    exact (List.Perm.swap a y _).trans (ih.cons a)
theorem erase_map {α β : Type} (f : α → β) : ∀ (l : List α) (k : Nat), (l.map f).eraseIdx k = (l.eraseIdx k).map f
  | [], _ => rfl
  | _ :: _, 0 => rfl
  | a :: r, k + 1 => by
    rw [List.map_cons, List.eraseIdx_cons_succ, List.eraseIdx_cons_succ, List.map_cons, erase_map f r k]
theorem seq_ix {n : Nat} {i : Int} (h0 : 0 ≤ i) (h1 : i < n) : seqIndex? i n = some i.toNat := by
  refine (ixN_seq ?_).1
  unfold ixN
  rw [if_pos h0, if_pos h1]
theorem cut_ints {ds : List Int} {f l : Int} (h0 : 0 ≤ f) (h1 : f ≤ l) : cutV (ds.map V.int) (some f) (some l) = ((ds.drop f.toNat).take (l.toNat - f.toNat)).map V.int := by
  rw [cut_mid h0 h1, List.map_take, List.map_drop]
end Wr

set_option Elab.async false
set_option linter.all false
set_option maxRecDepth 100000
set_option maxHeartbeats 2000000
namespace Wr
open PySem PySem.Spec PyProof.Rows L2
/-! ### the kinds of data -/
def tyN : PyData → String
  | .none => "NoneType"
  | .bool _ => "bool"
  | .int _ => "int"
  | .str _ => "str"
  | .list _ => "list"
  | .tuple _ => "tuple"
  | .dict _ => "dict"
theorem dp_ty {K : PySem.W.Frag} {H : Hp} : ∀ {v : V} {d : PyData}, Dp K H v d → TyX K H v (.type (tyN d))
  | _, _, .non => .base .non
  | _, _, .bl b => .base (.bl b)
  | _, _, .int i => .base (.int i)
  | _, _, .str x => .base (.str x)
  | _, _, .lst h _ => by
    rcases h with (h | ⟨o, h⟩) | ⟨o, its, n, h, c, _⟩
    · exact .base (.lst h)
    · exact .base (.frz h)
    · exact .kList h c
  | _, _, .tup h _ => by
    rcases h with (h | ⟨o, h⟩) | ⟨o, its, n, h, c, _⟩
    · exact .base (.tup h)
    · exact .fTuple h
    · exact .kTuple h c
def isIntD : PyData → Bool
  | .int _ => true
  | .bool _ => true
  | _ => false
def isBoolD : PyData → Bool
  | .bool _ => true
  | _ => false
def isStrD : PyData → Bool
  | .str _ => true
  | _ => false
def isListD : PyData → Bool
  | .list _ => true
  | _ => false
def isTupD : PyData → Bool
  | .tuple _ => true
  | _ => false
theorem kit_int : ∀ d : PyData, kitB (tyN d) "int" = some (isIntD d)
  | .none => (by decide +kernel : kitB "NoneType" "int" = some false)
  | .bool _ => (by decide +kernel : kitB "bool" "int" = some true)
  | .int _ => (by decide +kernel : kitB "int" "int" = some true)
  | .str _ => (by decide +kernel : kitB "str" "int" = some false)
  | .list _ => (by decide +kernel : kitB "list" "int" = some false)
  | .tuple _ => (by decide +kernel : kitB "tuple" "int" = some false)
  | .dict _ => (by decide +kernel : kitB "dict" "int" = some false)
theorem kit_bool : ∀ d : PyData, kitB (tyN d) "bool" = some (isBoolD d)
  | .none => (by decide +kernel : kitB "NoneType" "bool" = some false)
  | .bool _ => (by decide +kernel : kitB "bool" "bool" = some true)
  | .int _ => (by decide +kernel : kitB "int" "bool" = some false)
  | .str _ => (by decide +kernel : kitB "str" "bool" = some false)
  | .list _ => (by decide +kernel : kitB "list" "bool" = some false)
  | .tuple _ => (by decide +kernel : kitB "tuple" "bool" = some false)
  | .dict _ => (by decide +kernel : kitB "dict" "bool" = some false)
theorem kit_str : ∀ d : PyData, kitB (tyN d) "str" = some (isStrD d)
  | .none => (by decide +kernel : kitB "NoneType" "str" = some false)
  | .bool _ => (by decide +kernel : kitB "bool" "str" = some false)
  | .int _ => (by decide +kernel : kitB "int" "str" = some false)
  | .str _ => (by decide +kernel : kitB "str" "str" = some true)
  | .list _ => (by decide +kernel : kitB "list" "str" = some false)
  | .tuple _ => (by decide +kernel : kitB "tuple" "str" = some false)
  | .dict _ => (by decide +kernel : kitB "dict" "str" = some false)
theorem kit_list : ∀ d : PyData, kitB (tyN d) "list" = some (isListD d)
  | .none => (by decide +kernel : kitB "NoneType" "list" = some false)
  | .bool _ => (by decide +kernel : kitB "bool" "list" = some false)
  | .int _ => (by decide +kernel : kitB "int" "list" = some false)
  | .str _ => (by decide +kernel : kitB "str" "list" = some false)
  | .list _ => (by decide +kernel : kitB "list" "list" = some true)
  | .tuple _ => (by decide +kernel : kitB "tuple" "list" = some false)
  | .dict _ => (by decide +kernel : kitB "dict" "list" = some false)
theorem kit_tuple : ∀ d : PyData, kitB (tyN d) "tuple" = some (isTupD d)
  | .none => (by decide +kernel : kitB "NoneType" "tuple" = some false)
  | .bool _ => (by decide +kernel : kitB "bool" "tuple" = some false)
  | .int _ => (by decide +kernel : kitB "int" "tuple" = some false)
  | .str _ => (by decide +kernel : kitB "str" "tuple" = some false)
  | .list _ => (by decide +kernel : kitB "list" "tuple" = some false)
  | .tuple _ => (by decide +kernel : kitB "tuple" "tuple" = some true)
  | .dict _ => (by decide +kernel : kitB "dict" "tuple" = some false)
def betwD (d : PyData) (lo hi : Int) : Bool := match d with
  | .int i => decide (lo ≤ i) && decide (i ≤ hi)
  | _ => false
end Wr

set_option Elab.async false
set_option linter.all false
set_option maxRecDepth 100000
set_option maxHeartbeats 2000000
namespace Wr
open PySem PySem.Spec PyProof.Rows L2
/-! ### trees: a strand or a node; the strands from left to right -/
theorem hu1 {k : Nat} {A : Around} (hr : Room k A) : A.units + 1 < cLine := by
  have := hr.un
  omega
theorem hu0 {k : Nat} {A : Around} (hr : Room k A) : A.units < cLine := by
  have := hr.un
  omega
def rLenS (K : PySem.W.Frag) : List V → Hp → VK → Prop := fun xs H Q => ∃ p ys, xs = [V.ref p] ∧ (SqL K H p ys ∨ SqT K H p ys) ∧ Q (V.int ys.length) H
def T.isLeaf : T → Bool
  | .leaf _ _ _ => true
  | .node _ => false
def T.items : T → List PyData
  | .leaf n p w => [.str n, .int p, .int w]
  | .node ts => T.dataL ts
theorem t_items {K : PySem.W.Frag} {H : Hp} {v : V} {t : T} (h : Dp K H v t.data) : ∃ a us, v = .ref a ∧ SqT K H a us ∧ DpAll K H us t.items := by
  cases t with
  | leaf n p w =>
    unfold T.data at h
    cases h with
    | tup h r => exact ⟨_, _, rfl, h, r⟩
  | node ts =>
    unfold T.data at h
    cases h with
    | tup h r => exact ⟨_, _, rfl, h, r⟩
/-- the first of a tree's items: a text exactly if the tree is a strand -/
theorem t_first {t : T} (h : t.Ok) : ∃ d r, t.items = d :: r ∧ isStrD d = t.isLeaf := by
  cases t with
  | leaf n p w => exact ⟨_, _, rfl, rfl⟩
  | node ts =>
    unfold T.Ok at h
    cases ts with
    | nil => exact absurd h.1 (by simp)
    | cons c r =>
      refine ⟨c.data, T.dataL r, rfl, ?_⟩
      cases c <;> rfl
section
variable {P : Program} {w : World} {K : PySem.W.Frag} {mg : Str → Option Value} {base : Heap}
def spLeaf (K : PySem.W.Frag) : Sp := fun vs H Q _ => ∃ (v : V) (t : T), vs = [v] ∧ Dp K H v t.data ∧ t.Ok ∧ Q (.bl t.isLeaf) H
theorem ok_leaf (G : Gx K mg) (k : Nat) : FnOk P w K mg base CX0 (k + 1) G.f_is_leaf G.fd_is_leaf ["tree"] (spLeaf K) := by
  refine G.F_is_leaf.ok sc_is_leaf (fun vs H Q E h => ?_) (fun cdv A outer s H vs Q E hr h => ?_)
  · obtain ⟨v, t, rfl, _⟩ := h
    rfl
  obtain ⟨v, t, rfl, hd, ho, q⟩ := h
  refine ⟨_, (pss_one (ps_ret (pe_and (pe_cmpR op_eq (pe_callB call_len_seq (by rfl) G.len PySem.boot_len (pa_cons (pv 0) pa_nil)) pe_int (nomark _)) (pe_one (pe_callB call_isi (by rfl) G.isinstance (by decide +kernel) (pa_cons (pe_ix ix_tup (pv 0) pe_int (fun _ _ => rfl)) (pa_cons (pe_bltn (v := .ty "str") (u := .type "str") (by rfl) G.str (by decide +kernel) rfl) pa_nil))))))), ?_⟩
  obtain ⟨a, us, rfl, hS, hAll⟩ := t_items hd
  obtain ⟨d, r, hi, hl⟩ := t_first ho
  rw [hi] at hAll
  cases hAll with
  | @cons x0 d0 us0 ds0 h0 hr0 =>
    refine ⟨_, rfl, a, _, rfl, .inr hS, rfl, _, rfl, ?_⟩
    refine ite2 (fun c => ?_) (fun c => ?_)
    · refine ⟨_, rfl, a, _, _, _, rfl, rfl, hS, atI_nat (j := 0) rfl, x0, _, _, _, _, rfl, .ty "str", dp_ty h0, kit_ty (kit_str d), ?_⟩
      rw [hl]
      exact q
    · have e : t.isLeaf = false := by
        cases t with
        | node ts => rfl
        | leaf n p w =>
          exfalso
          cases hi
          have h3 := dpAll_length hr0
          refine c (decide_eq_true ?_)
          rw [List.length_cons, h3]
          rfl
      rw [e] at q
      exact q
end
end Wr

set_option Elab.async false
set_option linter.all false
set_option maxRecDepth 100000
set_option maxHeartbeats 2000000
namespace Wr
open PySem PySem.Spec PyProof.Rows L2
/-! ### strands: a new list of the leaves, from left to right -/
theorem yes_go {σ : L2.St} {H : Hp} {A B : Hp → Prop} (h : A H) : tYes σ H fun b H3 => if b = true then A H3 else B H3 := iteT (A := A H) (B := B H) h
mutual
theorem T.lpos : ∀ t : T, t.Ok → 1 ≤ t.leaves.length
  | .leaf _ _ _, _ => Nat.le_refl _
  | .node ts, h => by
    unfold T.Ok at h
    have := T.lposL ts h.2
    unfold T.leaves
    omega
theorem T.lposL : ∀ ts : List T, T.OkL ts → ts.length ≤ (T.leavesL ts).length
  | [], _ => Nat.zero_le _
  | t :: r, h => by
    unfold T.OkL at h
    have h1 := T.lpos t h.1
    have h2 := T.lposL r h.2
    unfold T.leavesL
    rw [List.length_cons, List.length_append]
    omega
end
/-- a child has fewer strands than its node -/
theorem T.child_lt {ts : List T} {c : T} (h : (T.node ts).Ok) (hc : c ∈ ts) : c.leaves.length < (T.node ts).leaves.length := by
  unfold T.Ok at h
  obtain ⟨xs, ys, rfl⟩ := List.append_of_mem hc
  have ha := T.okL_all.mp h.2
  have h1 := T.lposL xs (T.okL_all.mpr fun t ht => ha t (List.mem_append_left _ ht))
  have h2 := T.lposL ys (T.okL_all.mpr fun t ht => ha t (List.mem_append_right _ (List.mem_cons_of_mem _ ht)))
  have h3 := h.1
  show c.leaves.length < (T.leavesL (xs ++ c :: ys)).length
  rw [T.leavesL_append, T.leavesL, List.length_append, List.length_append]
  rw [List.length_append, List.length_cons] at h3
  omega
theorem T.leaves_take (ts : List T) (i : Nat) (c : T) (h : ts[i]? = some c) : T.leavesL (ts.take (i + 1)) = T.leavesL (ts.take i) ++ c.leaves := by
  rw [List.take_succ, h, T.leavesL_append]
  show T.leavesL (ts.take i) ++ T.leavesL [c] = _
  rw [T.leavesL, T.leavesL, List.append_nil]
section
variable {P : Program} {w : World} {K : PySem.W.Frag} {mg : Str → Option Value} {base : Heap}
abbrev leafD (l : Str × Int × Int) : PyData := (leafT l).data
def spStrands (K : PySem.W.Frag) (n : Nat) : Sp := fun vs H Q _ => ∃ (v : V) (t : T) (H0 : Hp), vs = [v] ∧ Le H0 H ∧ Dp K H0 v t.data ∧ t.Ok ∧ t.leaves.length ≤ n ∧ n ≤ 1000 ∧
  ∀ (p : Addr) (us : List V) (H' : Hp), Le H H' → H p = none → H' p = some (.lst us) → DpAll K H0 us (t.leaves.map leafD) → Q (.ref p) H'
theorem ok_strands (G : Gx K mg) (k : Nat) : ∀ n : Nat, FnOk P w K mg base CX0 (n + k + 1) G.f_strands G.fd_strands ["tree"] (spStrands K n)
  | 0 => by
    have no : ∀ vs H Q E, ¬ spStrands K 0 vs H Q E := fun vs H Q E h => by
      obtain ⟨v, t, H0, _, _, _, ho, h1, _⟩ := h
      have := t.lpos ho
      omega
    exact ⟨fun vs H Q E h => absurd h (no vs H Q E), fun A outer s H args us vs Q E _ _ _ _ h => absurd h (no vs H Q E)⟩
  | n + 1 => by
    have G_strands := ok_strands G k n
    have G_is_leaf := (ok_leaf (P := P) (w := w) (base := base) G (n + k)).mono (Nat.le_refl (n + k + 1))
    have lev : n + 1 + k + 1 = (n + k + 1) + 1 := by omega
    rw [lev]
    refine G.F_strands.ok sc_strands (fun vs H Q E h => ?_) (fun cdv A outer s H vs Q E hr h => ?_)
    · obtain ⟨v, t, H0, rfl, _⟩ := h
      rfl
    obtain ⟨v, t, H0, rfl, l0, hd, ho, hn, hb, q⟩ := h
    refine ⟨_, (pss_cons (ps_if (pt_val (pe_call G_is_leaf hr (by rfl) G.m_is_leaf G.F_is_leaf.kp G.b_is_leaf .nil pass0 (pa_cons (pv 0) pa_nil))) (pss_one (ps_ret (pe_lst (pa_cons (pv 0) pa_nil)))) pss_nil)
    (pss_one (ps_ret (pe_lc2 (own := [("child", 1), ("strand", 2)]) (vs1 := [2]) (wi1 := iList K _) (g := gName 1) (g1 := gName 2) (tt := tYes) (tt1 := tYes) (by rfl) sc_strands.nd (pi_tup (pv 0)) (blkOk_by (own := [("child", 1), ("strand", 2)]) (N := N_strands) (sc := defScope s_strands) (by decide +kernel)) (by decide) (fun _ _ _ _ _ => (pg_name (i := 1) sc_strands.nd rfl (.inl rfl) (.inr rfl))) (fun _ _ _ _ _ => pts_nil) (fun _ _ _ _ _ => (pi_list (pe_call G_strands hr (by rfl) G.m_strands G.F_strands.kp G.b_strands .nil pass0 (pa_cons (pv 1) pa_nil)))) (fun _ _ _ _ _ => (pg_name (i := 2) sc_strands.nd rfl (.inl rfl) (.inr rfl))) (fun _ _ _ _ _ => pts_nil) (fun _ _ _ _ _ => (pv 2)))))), ?_⟩
    refine ⟨_, rfl, v, t, rfl, l0.dp hd, ho, _, rfl, ?_⟩
    cases t with
    | leaf nm p w =>
      refine iteT ⟨_, rfl, (by decide : 1 ≤ sizeLine), fun p0 hp0 => q p0 [v] _ (Le.new hp0) hp0 upd_same ?_⟩
      exact .cons hd .nil
    | node ts =>
      refine iteF ?_
      obtain ⟨a, us, rfl, hS, hAll⟩ := t_items hd
      have hS := l0.sqt hS
      have hl : us.length = ts.length := by
        rw [dpAll_length hAll]
        show (T.dataL ts).length = _
        rw [T.dataL_map, List.length_map]
      refine ⟨_, rfl, a, rfl, ⟨us, hS⟩, fun D hD => ?_⟩
      refine ⟨fun i m H2 => m = ts.length - i ∧ i ≤ ts.length ∧ Le H H2 ∧ ∃ acc, H2 D = some (.lst acc) ∧ DpAll K H0 acc ((T.leavesL (ts.take i)).map leafD), ⟨ts.length, rfl, Nat.zero_le _, Le.new hD, [], upd_same, .nil⟩, ?_⟩
      rintro i m H2 ⟨rfl, hi, l2, acc, hacc, dacc⟩
      by_cases hlt : i < ts.length
      · have hx : us[i]? = some us[i] := List.getElem?_eq_getElem (by omega)
        refine .inr ⟨⟨us, us[i], l2.sqt hS, hx⟩, fun H' => Le H H' ∧ ∃ acc, H' D = some (.lst acc) ∧ DpAll K H0 acc ((T.leavesL (ts.take (i + 1))).map leafD), fun H' z => ⟨ts.length - (i + 1), by omega, rfl, hlt, z⟩, fun x H' y => ?_⟩
        obtain ⟨e, y⟩ := y
        subst e
        have ex := y us (l2.sqt hS)
        obtain ⟨d, hdi, hdx⟩ := dpAll_getV hAll ex
        have hc : ts[i]? = some ts[i] := List.getElem?_eq_getElem hlt
        have ed : d = ts[i].data := by
          have z : (T.dataL ts)[i]? = some d := hdi
          rw [T.dataL_map, List.getElem?_map, hc] at z
          exact (Option.some.inj z).symm
        subst ed
        have cm : ts[i] ∈ ts := List.getElem_mem hlt
        have co : ts[i].Ok := by
          unfold T.Ok at ho
          exact T.okL_all.mp ho.2 _ cm
        have clt := T.child_lt ho cm
        refine ⟨rfl, ?_⟩
        refine yes_go ?_
        refine ⟨_, rfl, x, ts[i], H0, rfl, l0.trans l2, hdx, co, by omega, by omega, fun p1 us1 H3 l3 hp1 h3 d3 => ?_⟩
        refine ⟨p1, rfl, ⟨us1, sql h3⟩, ?_⟩
        have pD : p1 ≠ D := fun z => by
          rw [z, hacc] at hp1
          cases hp1
        have ct : T.leavesL (ts.take (i + 1)) = T.leavesL (ts.take i) ++ ts[i].leaves := T.leaves_take ts i _ hc
        have l23 := l2.trans l3
        have us1l := dpAll_length d3
        have accl := dpAll_length dacc
        rw [List.length_map] at us1l accl
        have tot : acc.length + us1.length ≤ 1000 := by
          have z : (T.leavesL (ts.take (i + 1))).length ≤ (T.leavesL ts).length := by
            have e := congrArg List.length (T.leavesL_append (ts.take (i + 1)) (ts.drop (i + 1)))
            rw [List.take_append_drop, List.length_append] at e
            omega
          rw [ct, List.length_append] at z
          have hn2 : (T.leavesL ts).length ≤ n + 1 := hn
          omega
        refine ⟨fun j m2 H4 => m2 = us1.length - j ∧ j ≤ us1.length ∧ Le H H4 ∧ H4 p1 = some (.lst us1) ∧ H4 D = some (.lst (acc ++ us1.take j)),
          ⟨us1.length, rfl, Nat.zero_le _, l23, h3, by rw [List.take_zero, List.append_nil]; exact l3.lst hacc⟩, ?_⟩
        rintro j m2 H4 ⟨rfl, hj, l4, h4, hD4⟩
        by_cases jlt : j < us1.length
        · have hz : us1[j]? = some us1[j] := List.getElem?_eq_getElem jlt
          refine .inr ⟨⟨us1, us1[j], sql h4, hz⟩, fun H' => Le H H' ∧ H' p1 = some (.lst us1) ∧ H' D = some (.lst (acc ++ us1.take (j + 1))), fun H' z => ⟨us1.length - (j + 1), by omega, rfl, jlt, z⟩, fun x2 H' y2 => ?_⟩
          obtain ⟨e, y2⟩ := y2
          subst e
          have ex2 := y2 us1 (sql h4)
          refine ⟨rfl, ?_⟩
          refine yes_go ⟨_, rfl, _, hD4, szlt (by rw [List.length_append, List.length_take]; omega), ?_⟩
          refine ⟨l4.mut hD, by rw [upd_ne pD]; exact h4, ?_⟩
          rw [upd_same, List.take_succ, ex2, List.append_assoc]
          rfl
        · have ej : j = us1.length := by omega
          subst ej
          refine .inl ⟨⟨us1, sql h4, Nat.le_refl _⟩, l4, _, hD4, ?_⟩
          rw [List.take_length, ct, List.map_append]
          exact dpAll_append dacc d3
      · have ei : i = ts.length := by omega
        subst ei
        refine .inl ⟨⟨us, l2.sqt hS, by omega⟩, q D acc H2 l2 hD hacc ?_⟩
        rw [List.take_length] at dacc
        exact dacc
end
end Wr

set_option Elab.async false
set_option linter.all false
set_option maxRecDepth 100000
set_option maxHeartbeats 2000000
namespace Wr
open PySem PySem.Spec PyProof.Rows L2
/-! ### strand_names: the names, ascending -/
def T.names (t : T) : List Str := t.leaves.map (·.1)
theorem dp_leaf {K : PySem.W.Frag} {H : Hp} {v : V} {l : Str × Int × Int} (h : Dp K H v (leafD l)) : ∃ a, v = .ref a ∧ SqT K H a [.str l.1, .int l.2.1, .int l.2.2] := by
  obtain ⟨a, us, rfl, hS, hAll⟩ := t_items (t := leafT l) h
  refine ⟨a, rfl, ?_⟩
  cases hAll with
  | cons h1 r1 =>
    cases r1 with
    | cons h2 r2 =>
      cases r2 with
      | cons h3 r3 =>
        cases h1
        cases h2
        cases h3
        cases r3
        exact hS
section
variable {P : Program} {w : World} {K : PySem.W.Frag} {mg : Str → Option Value} {base : Heap}
def spNames (K : PySem.W.Frag) (n : Nat) (B : Addr) : Sp := fun vs H Q _ => ∃ (v : V) (t : T) (H0 : Hp), vs = [v] ∧ Le H0 H ∧ Dp K H0 v t.data ∧ t.Ok ∧ t.leaves.length ≤ n ∧ n ≤ 60 ∧ GxR.TabG H B ∧
  ∀ (p : Addr) (ks : List Str) (H' : Hp), Le H H' → H p = none → H' p = some (.tup (ks.map V.str)) → ks.Perm t.names → sortedS ks = true → Q (.ref p) H'
theorem ok_names (G : Gx K mg) (TB : GxR.TabB base mg G.c_strand_names G.p_strand_names) (k n : Nat) : FnOk P w K mg base CX0 (n + k + 8) G.f_strand_names G.fd_strand_names ["rig"] (spNames K n G.p_strand_names) := by
  have G_strands := (ok_strands (P := P) (w := w) (base := base) G (k + 6) n)
  refine G.FC_strand_names.ok sc_strand_names (fun vs H Q E h => ?_) (fun A outer s H vs Q E hr h => ?_)
  · obtain ⟨v, t, H0, rfl, _⟩ := h
    rfl
  obtain ⟨v, t, H0, rfl, l0, hd, ho, hn, hb, hT, q⟩ := h
  have hr : Room (n + (k + 6) + 1) _ := hr
  refine ⟨_, (pss_one (ps_ret (pe_callTy call_tuple_of (by rfl) G.tuple (by decide +kernel) (pa_cons (GZ.pe_srtG (GZ.pgen_gx (own := [("name", 1), ("strength", 2), ("wear", 3)]) (g := gTup K 3 (gCons (gName 1) (gCons (gName 2) (gCons (gName 3) gNil)))) (tt := tYes) (k := 0) sc_strand_names.nd (hr.mono (by omega)) TB rfl (blkOk_by (own := [("name", 1), ("strength", 2), ("wear", 3)]) (N := N_strand_names) (sc := defScope s_strand_names) (by decide +kernel)) rfl (by decide +kernel) rfl (pi_list (pe_call G_strands hr (by rfl) G.m_strands G.F_strands.kp G.b_strands .nil pass0 (pa_cons (pv 0) pa_nil))) (fun _ _ _ _ _ _ _ hr => (pg_tup (n := 3) rfl (pgs_cons (pg_name (i := 1) sc_strand_names.nd rfl (.inl rfl) (.inr rfl)) (pgs_cons (pg_name (i := 2) sc_strand_names.nd rfl (.inl rfl) (.inr rfl)) (pgs_cons (pg_name (i := 3) sc_strand_names.nd rfl (.inl rfl) (.inr rfl)) pgs_nil))))) (fun _ _ _ _ _ _ _ hr => pts_nil) (fun _ _ _ _ _ _ _ hr => (pv 1))) (hr.mono (by omega)) (by rfl) G.sorted) pa_nil)))), ?_⟩
  refine ⟨_, rfl, v, t, H0, rfl, l0, hd, ho, hn, by omega, fun p1 us1 H1 l1 hp1 h1 d1 => ?_⟩
  refine ⟨p1, rfl, ⟨us1, sql h1⟩, l1.tab _ hT, fun H2 tb => ?_⟩
  have l2 : Le H1 H2 := Le.tabbed tb (l1.tab _ hT)
  have h2 := l2.lst h1
  have len : us1.length = t.leaves.length := by
    rw [dpAll_length d1, List.length_map]
  refine ⟨fun i m ys H3 => m = us1.length - i ∧ i ≤ us1.length ∧ H3 = H2 ∧ ys = (t.names.take i).map V.str, ⟨us1.length, rfl, Nat.zero_le _, rfl, rfl⟩, ?_⟩
  rintro i m ys H3 ⟨rfl, hi, rfl, rfl⟩
  by_cases hlt : i < us1.length
  · have hx : us1[i]? = some us1[i] := List.getElem?_eq_getElem hlt
    refine .inr ⟨⟨us1, us1[i], sql h2, hx⟩, fun ys' H' => H' = H3 ∧ ys' = (t.names.take (i + 1)).map V.str, fun ys' H' z => ⟨us1.length - (i + 1), by omega, rfl, hlt, z⟩, fun x H' y => ?_⟩
    obtain ⟨e, y⟩ := y
    subst e
    obtain ⟨d, hdi, hdx⟩ := dpAll_getV d1 (y us1 (sql h2))
    have hc : t.leaves[i]? = some (t.leaves[i]'(by omega)) := List.getElem?_eq_getElem (by omega)
    generalize t.leaves[i]'(by omega) = lf at hc
    rw [List.getElem?_map, hc] at hdi
    obtain rfl : leafD lf = d := Option.some.inj hdi
    obtain ⟨a, rfl, hS⟩ := dp_leaf hdx
    refine ⟨a, _, rfl, (l0.trans (l1.trans l2)).sqt hS, rfl, _, _, rfl, _, _, rfl, _, _, rfl, rfl, rfl, yes_go ⟨szlt ?_, _, rfl, rfl, ?_⟩⟩
    · rw [List.length_map, List.length_take]
      omega
    · have e : t.names[i]? = some lf.1 := by
        unfold T.names
        rw [List.getElem?_map, hc]
        rfl
      rw [List.take_succ, e, List.map_append]
      rfl
  · have ei : i = us1.length := by omega
    subst ei
    have nl : t.names.length = us1.length := by
      unfold T.names
      rw [List.length_map, len]
    refine .inl ⟨⟨us1, sql h2, Nat.le_refl _⟩, t.names, by rw [← nl, List.take_length], by omega, fun ks p2 hp hs hp2 => ?_⟩
    refine ⟨p2, _, rfl, .inl ⟨sql upd_same, fun p3 hp3 => ?_⟩⟩
    have l3 := (l1.trans l2).trans ((Le.new (o := .lst (ks.map V.str)) hp2).trans (Le.new (o := .tup (ks.map V.str)) hp3))
    refine q p3 ks _ l3 ?_ upd_same hp hs
    exact ((l1.trans l2).trans (Le.new hp2)).dom _ hp3
end
end Wr

set_option Elab.async false
set_option linter.all false
set_option maxRecDepth 100000
set_option maxHeartbeats 2000000
namespace Wr
open PySem PySem.Spec PyProof.Rows L2
/-! ### strengths_after: each name with the strength that is left -/
theorem val_none {kvs : List (L2.Key × V)} {k : L2.Key} (h : k ∉ kvs.map (·.1)) : valV kvs k = none := by
  unfold valV
  rw [List.find?_eq_none.mpr fun p hp => ?_]
  · rfl
  · intro e
    exact h (List.mem_map.mpr ⟨p, hp, of_decide_eq_true e⟩)
/-- the strengths after m lifts -/
def T.pows (t : T) (m : Int) : List (L2.Key × V) := t.leaves.map fun l => (Sum.inr l.1, .int (l.2.1 - m * l.2.2))
theorem take_put {kv : List (L2.Key × V)} {i : Nat} {k : L2.Key} {z : V} (nd : (kv.map (·.1)).Nodup) (h : kv[i]? = some (k, z)) : putK (kv.take i) k z = kv.take (i + 1) := by
  rw [putK_new z (val_none fun hm => ?_), List.take_succ, h]
  · rfl
  · obtain ⟨p, hp, e⟩ := List.mem_map.mp hm
    obtain ⟨j, hj, ej⟩ := List.getElem_of_mem hp
    rw [List.length_take] at hj
    rw [List.getElem_take] at ej
    have hi := (List.getElem?_eq_some_iff.mp h).1
    have ei := (List.getElem?_eq_some_iff.mp h).2
    refine List.pairwise_iff_getElem.mp nd j i (by rw [List.length_map]; omega) (by rw [List.length_map]; exact hi) (by omega) ?_
    rw [List.getElem_map, List.getElem_map, ej, ei]
    exact e
section
variable {P : Program} {w : World} {K : PySem.W.Frag} {mg : Str → Option Value} {base : Heap}
def spPows (K : PySem.W.Frag) (n : Nat) : Sp := fun vs H Q _ => ∃ (v : V) (t : T) (H0 : Hp) (m : Int), vs = [v, .int m] ∧ Le H0 H ∧ Dp K H0 v t.data ∧ t.Ok ∧ t.leaves.length ≤ n ∧ n ≤ 60 ∧ t.names.Nodup ∧ 0 ≤ m ∧ m ≤ 1000000 ∧
  ∀ (p : Addr) (od : Obj) (H' : Hp), Le H H' → H p = none → H' p = some (.frz od (.dK (t.pows m))) → Q (.ref p) H'
theorem ok_pows (G : Gx K mg) (k n : Nat) : FnOk P w K mg base CX0 (n + k + 2) G.f_strengths_after G.fd_strengths_after ["rig", "lifts"] (spPows K n) := by
  have G_strands := (ok_strands (P := P) (w := w) (base := base) G k n)
  refine G.F_strengths_after.ok sc_strengths_after (fun vs H Q E h => ?_) (fun cdv A outer s H vs Q E hr h => ?_)
  · obtain ⟨v, t, H0, m, rfl, _⟩ := h
    rfl
  obtain ⟨v, t, H0, m, rfl, l0, hd, ho, hn, hb, nd, m0, m1, q⟩ := h
  refine ⟨_, (pss_one (ps_ret (D2.pe_frz (pe_dc (own := [("name", 2), ("strength", 3), ("wear", 4)]) (g := gTup K 3 (gCons (gName 2) (gCons (gName 3) (gCons (gName 4) gNil)))) (tt := tYes) (by rfl) sc_strengths_after.nd (pi_list (pe_call G_strands hr (by rfl) G.m_strands G.F_strands.kp G.b_strands .nil pass0 (pa_cons (pv 0) pa_nil))) (blkOk_by (own := [("name", 2), ("strength", 3), ("wear", 4)]) (N := N_strengths_after) (sc := defScope s_strengths_after) (by decide +kernel)) (fun _ _ _ _ _ => (pg_tup (n := 3) rfl (pgs_cons (pg_name (i := 2) sc_strengths_after.nd rfl (.inl rfl) (.inr rfl)) (pgs_cons (pg_name (i := 3) sc_strengths_after.nd rfl (.inl rfl) (.inr rfl)) (pgs_cons (pg_name (i := 4) sc_strengths_after.nd rfl (.inl rfl) (.inr rfl)) pgs_nil))))) (fun _ _ _ _ _ => pts_nil) (fun _ _ _ _ _ => (pv 2)) (fun _ _ _ _ _ => (pe_op op_sub (pv 3) (pe_op op_mul (pv 1) (pv 4)))))))), ?_⟩
  refine ⟨_, rfl, v, t, H0, rfl, l0, hd, ho, hn, by omega, fun p1 us1 H1 l1 hp1 h1 d1 => ?_⟩
  refine ⟨p1, rfl, ⟨us1, sql h1⟩, fun D hD => ?_⟩
  have len : us1.length = t.leaves.length := by
    rw [dpAll_length d1, List.length_map]
  have kl : (t.pows m).length = us1.length := by
    unfold T.pows
    rw [List.length_map, len]
  have kn : ((t.pows m).map (·.1)).Nodup := by
    have e : (t.pows m).map (·.1) = t.names.map Sum.inr := by
      unfold T.pows T.names
      rw [List.map_map, List.map_map]
      rfl
    rw [e]
    exact List.Pairwise.map _ (fun a b hab z => hab (Sum.inr.inj z)) nd
  refine ⟨fun i j H2 => j = us1.length - i ∧ i ≤ us1.length ∧ Le H1 H2 ∧ H2 D = some (.dK ((t.pows m).take i)), ⟨us1.length, rfl, Nat.zero_le _, Le.new hD, upd_same⟩, ?_⟩
  rintro i j H2 ⟨rfl, hi, l2, hk⟩
  by_cases hlt : i < us1.length
  · have hx : us1[i]? = some us1[i] := List.getElem?_eq_getElem hlt
    have h2 := l2.lst h1
    refine .inr ⟨⟨us1, us1[i], sql h2, hx⟩, fun H' => Le H1 H' ∧ H' D = some (.dK ((t.pows m).take (i + 1))), fun H' z => ⟨us1.length - (i + 1), by omega, rfl, hlt, z⟩, fun x H' y => ?_⟩
    obtain ⟨e, y⟩ := y
    subst e
    obtain ⟨d, hdi, hdx⟩ := dpAll_getV d1 (y us1 (sql h2))
    have hc : t.leaves[i]? = some (t.leaves[i]'(by omega)) := List.getElem?_eq_getElem (by omega)
    generalize t.leaves[i]'(by omega) = lf at hc
    rw [List.getElem?_map, hc] at hdi
    obtain rfl : leafD lf = d := Option.some.inj hdi
    obtain ⟨a, rfl, hS⟩ := dp_leaf hdx
    have hkv : (t.pows m)[i]? = some (Sum.inr lf.1, .int (lf.2.1 - m * lf.2.2)) := by
      unfold T.pows
      rw [List.getElem?_map, hc]
      rfl
    refine ⟨a, _, rfl, (l0.trans (l1.trans l2)).sqt hS, rfl, _, _, rfl, _, _, rfl, _, _, rfl, rfl, rfl, yes_go ⟨_, rfl, _, rfl, _, rfl, _, rfl, _, _, rfl, rfl, .inl ⟨by omega, by omega⟩, _, _, rfl, rfl, _, Sum.inr lf.1, rfl, hk, szlt ?_, l2.mut hD, ?_⟩⟩
    · rw [List.length_take]
      omega
    · rw [upd_same]
      exact congrArg (fun z => some (HO.dK z)) (take_put kn hkv)
  · have ei : i = us1.length := by omega
    subst ei
    rw [← kl, List.take_length] at hk
    refine .inl ⟨⟨us1, sql (l2.lst h1), Nat.le_refl _⟩, D, _, rfl, hk, trivial, fun od => ?_⟩
    exact q D od _ ((l1.trans l2).mut (l1.dom _ hD)) (l1.dom _ hD) upd_same
end
end Wr

set_option Elab.async false
set_option linter.all false
set_option maxRecDepth 100000
set_option maxHeartbeats 2000000
namespace Wr
open PySem PySem.Spec PyProof.Rows L2
/-! ### the divisors of the strands that remain: pure -/
abbrev Dv := List (Str × Int)
/-- the parts that hold, each divisor times their number -/
def share (ps : List Dv) : Dv := (ps.filter fun p => !p.isEmpty).flatMap fun p => p.map fun x => (x.1, x.2 * ((ps.filter fun p => !p.isEmpty).length : Nat))
mutual
def T.div (S : Str → Bool) : T → Dv
  | .leaf n _ _ => if S n = true then [(n, 1)] else []
  | .node ts => share (T.divL S ts)
def T.divL (S : Str → Bool) : List T → List Dv
  | [] => []
  | t :: r => t.div S :: T.divL S r
end
theorem T.divL_map (S : Str → Bool) : ∀ ts : List T, T.divL S ts = ts.map (T.div S)
  | [] => rfl
  | t :: r => by rw [T.divL, T.divL_map S r, List.map_cons]
theorem flat_keys (k : Int) : ∀ ps : List Dv, ((ps.filter fun p => !p.isEmpty).flatMap fun p => p.map fun x => (x.1, x.2 * k)).map (·.1) = (ps.flatMap id).map (·.1)
  | [] => rfl
  | p :: r => by
    have ih := flat_keys k r
    cases p with
    | nil => exact ih
    | cons x q =>
      rw [List.filter_cons_of_pos (by rfl), List.flatMap_cons, List.map_append, ih, List.flatMap_cons, List.map_append, List.map_map]
      rfl
mutual
/-- its names: those of the tree that remain, in the tree's order -/
theorem T.div_keys (S : Str → Bool) : ∀ t : T, (t.div S).map (·.1) = t.names.filter S
  | .leaf n p w => by
    unfold T.div T.names T.leaves
    by_cases h : S n = true
    · rw [if_pos h, List.map_cons, List.map_nil, List.map_cons, List.map_nil, List.filter_cons_of_pos h]
      rfl
    · rw [if_neg h, List.map_cons, List.map_nil, List.filter_cons_of_neg h]
      rfl
  | .node ts => by
    have h := T.divL_keys S ts
    unfold T.div share
    rw [flat_keys, h]
    rfl
theorem T.divL_keys (S : Str → Bool) : ∀ ts : List T, ((T.divL S ts).flatMap id).map (·.1) = ((T.leavesL ts).map (·.1)).filter S
  | [] => rfl
  | t :: r => by
    rw [T.divL, List.flatMap_cons, List.map_append, T.divL_keys S r, T.leavesL, List.map_append, List.filter_append]
    exact congrArg (· ++ _) (T.div_keys S t)
end
/-- a part holds exactly if one of its names remains -/
theorem T.div_empty (S : Str → Bool) (t : T) : (t.div S).isEmpty = true ↔ ∀ n ∈ t.names, S n = false := by
  have h := T.div_keys S t
  rw [List.isEmpty_iff]
  constructor
  · intro e n hn
    rw [e, List.map_nil] at h
    have h2 : n ∉ t.names.filter S := by rw [← h]; simp
    cases hs : S n with
    | false => rfl
    | true => exact absurd (List.mem_filter.mpr ⟨hn, hs⟩) h2
  · intro e
    have h2 : t.names.filter S = [] := List.filter_eq_nil_iff.mpr fun n hn => by rw [e n hn]; decide
    rw [h2] at h
    exact List.map_eq_nil_iff.mp h
/-- more strands, more parts that hold -/
theorem hold_mono {S S' : Str → Bool} (hS : ∀ n, S n = true → S' n = true) : ∀ ts : List T, ((T.divL S ts).filter fun p => !p.isEmpty).length ≤ ((T.divL S' ts).filter fun p => !p.isEmpty).length
  | [] => Nat.le_refl _
  | t :: r => by
    have ih := hold_mono hS r
    rw [T.divL, T.divL]
    cases h : (t.div S).isEmpty with
    | true =>
      rw [List.filter_cons_of_neg (by rw [h]; decide)]
      refine Nat.le_trans ih ?_
      rw [List.filter_cons]
      split
      · rw [List.length_cons]
        omega
      · exact Nat.le_refl _
    | false =>
      have h2 : (t.div S').isEmpty = false := by
        cases h3 : (t.div S').isEmpty with
        | false => rfl
        | true =>
          exfalso
          have z := (T.div_empty S' t).mp h3
          have z2 : (t.div S).isEmpty = true := (T.div_empty S t).mpr fun n hn => by
            cases hs : S n with
            | false => rfl
            | true =>
              have := hS n hs
              rw [z n hn] at this
              cases this
          rw [h] at z2
          cases z2
      rw [List.filter_cons_of_pos (by rw [h]; rfl), List.filter_cons_of_pos (by rw [h2]; rfl), List.length_cons, List.length_cons]
      omega
mutual
theorem T.div_pos (S : Str → Bool) : ∀ (t : T), ∀ x ∈ t.div S, 1 ≤ x.2
  | .leaf n p w, x, hx => by
    unfold T.div at hx
    by_cases h : S n = true
    · rw [if_pos h, List.mem_singleton] at hx
      rw [hx]
      exact Int.le_refl 1
    · rw [if_neg h] at hx
      cases hx
  | .node ts, x, hx => by
    unfold T.div share at hx
    obtain ⟨p, hp, hx⟩ := List.mem_flatMap.mp hx
    obtain ⟨y, hy, rfl⟩ := List.mem_map.mp hx
    have h1 := T.divL_pos S ts p (List.mem_filter.mp hp).1 y hy
    have h2 : 0 < ((T.divL S ts).filter fun p => !p.isEmpty).length := List.length_pos_of_mem hp
    show 1 ≤ y.2 * _
    have h3 : (1 : Int) ≤ (((T.divL S ts).filter fun p => !p.isEmpty).length : Nat) := by omega
    exact Int.le_trans (by decide : (1 : Int) ≤ 1 * 1) (Int.mul_le_mul h1 h3 (by decide) (by omega))
theorem T.divL_pos (S : Str → Bool) : ∀ (ts : List T), ∀ p ∈ T.divL S ts, ∀ x ∈ p, 1 ≤ x.2
  | [], p, hp, x, hx => by cases hp
  | t :: r, p, hp, x, hx => by
    rw [T.divL] at hp
    rcases List.mem_cons.mp hp with e | hp
    · rw [e] at hx
      exact T.div_pos S t x hx
    · exact T.divL_pos S r p hp x hx
end
end Wr

set_option Elab.async false
set_option linter.all false
set_option maxRecDepth 100000
set_option maxHeartbeats 2000000
namespace Wr
open PySem PySem.Spec PyProof.Rows L2
/-! ### fewer strands, smaller divisors; what holds a load -/
theorem T.div_name {S : Str → Bool} {t : T} {x : Str × Int} (h : x ∈ t.div S) : x.1 ∈ t.names ∧ S x.1 = true := by
  have e : x.1 ∈ (t.div S).map (·.1) := List.mem_map.mpr ⟨x, h, rfl⟩
  rw [T.div_keys] at e
  exact List.mem_filter.mp e
theorem T.divL_name {S : Str → Bool} {ts : List T} {p : Dv} {x : Str × Int} (hp : p ∈ T.divL S ts) (h : x ∈ p) : x.1 ∈ (T.leavesL ts).map (·.1) := by
  have e : x.1 ∈ ((T.divL S ts).flatMap id).map (·.1) := List.mem_map.mpr ⟨x, List.mem_flatMap.mpr ⟨p, hp, h⟩, rfl⟩
  rw [T.divL_keys] at e
  exact (List.mem_filter.mp e).1
mutual
theorem T.div_mono {S S' : Str → Bool} (hS : ∀ n, S n = true → S' n = true) : ∀ t : T, t.names.Nodup → ∀ x ∈ t.div S, ∀ y ∈ t.div S', x.1 = y.1 → x.2 ≤ y.2
  | .leaf n p w, _, x, hx, y, hy, _ => by
    unfold T.div at hx hy
    by_cases h : S n = true
    · rw [if_pos h, List.mem_singleton] at hx
      rw [if_pos (hS n h), List.mem_singleton] at hy
      rw [hx, hy]
      exact Int.le_refl 1
    · rw [if_neg h] at hx
      cases hx
  | .node ts, nd, x, hx, y, hy, e => by
    unfold T.div share at hx hy
    obtain ⟨p, hp, hx⟩ := List.mem_flatMap.mp hx
    obtain ⟨x1, hx1, rfl⟩ := List.mem_map.mp hx
    obtain ⟨p', hp', hy⟩ := List.mem_flatMap.mp hy
    obtain ⟨y1, hy1, rfl⟩ := List.mem_map.mp hy
    have m1 := (List.mem_filter.mp hp).1
    have m2 := (List.mem_filter.mp hp').1
    have h1 := T.divL_mono hS ts nd p m1 x1 hx1 p' m2 y1 hy1 e
    have h2 := hold_mono hS ts
    have h3 := T.divL_pos S ts p m1 x1 hx1
    show x1.2 * _ ≤ y1.2 * _
    exact Int.mul_le_mul h1 (by omega) (by omega) (by omega)
theorem T.divL_mono {S S' : Str → Bool} (hS : ∀ n, S n = true → S' n = true) : ∀ ts : List T, ((T.leavesL ts).map (·.1)).Nodup → ∀ p ∈ T.divL S ts, ∀ x ∈ p, ∀ p' ∈ T.divL S' ts, ∀ y ∈ p', x.1 = y.1 → x.2 ≤ y.2
  | [], _, p, hp, _, _, _, _, _, _, _ => by cases hp
  | t :: r, nd, p, hp, x, hx, p', hp', y, hy, e => by
    rw [T.leavesL, List.map_append] at nd
    obtain ⟨n1, n2, n3⟩ := List.nodup_append.mp nd
    rw [T.divL] at hp hp'
    rcases List.mem_cons.mp hp with e1 | hp
    · rw [e1] at hx
      rcases List.mem_cons.mp hp' with e2 | hp'
      · rw [e2] at hy
        exact T.div_mono hS t n1 x hx y hy e
      · exact absurd e (n3 _ (T.div_name hx).1 _ (T.divL_name hp' hy))
    · rcases List.mem_cons.mp hp' with e2 | hp'
      · rw [e2] at hy
        exact absurd e.symm (n3 _ (T.div_name hy).1 _ (T.divL_name hp hx))
      · exact T.divL_mono hS r n2 p hp x hx p' hp' y hy e
end
/-- the strands that don't break at once: pw their strengths, L the load -/
def whole (t : T) (pw : Str → Int) (L : Int) (S : Str → Bool) : Str → Bool := fun n => (t.div S).any fun x => decide (x.1 = n) && decide (L ≤ pw x.1 * x.2)
theorem whole_iff {t : T} {pw : Str → Int} {L : Int} {S : Str → Bool} {n : Str} : whole t pw L S n = true ↔ ∃ d, (n, d) ∈ t.div S ∧ L ≤ pw n * d := by
  unfold whole
  rw [List.any_eq_true]
  constructor
  · rintro ⟨x, hx, h⟩
    rw [Bool.and_eq_true, decide_eq_true_eq, decide_eq_true_eq] at h
    obtain ⟨rfl, h⟩ := h
    exact ⟨x.2, hx, h⟩
  · rintro ⟨d, hd, h⟩
    refine ⟨(n, d), hd, ?_⟩
    rw [Bool.and_eq_true, decide_eq_true_eq, decide_eq_true_eq]
    exact ⟨rfl, h⟩
theorem whole_sub {t : T} {pw : Str → Int} {L : Int} {S : Str → Bool} {n : Str} (h : whole t pw L S n = true) : n ∈ t.names ∧ S n = true := by
  obtain ⟨d, hd, _⟩ := whole_iff.mp h
  exact T.div_name hd
theorem T.div_has {S : Str → Bool} {t : T} {n : Str} (h1 : n ∈ t.names) (h2 : S n = true) : ∃ d, (n, d) ∈ t.div S := by
  have e : n ∈ (t.div S).map (·.1) := by
    rw [T.div_keys]
    exact List.mem_filter.mpr ⟨h1, h2⟩
  obtain ⟨x, hx, rfl⟩ := List.mem_map.mp e
  exact ⟨x.2, hx⟩
/-- more strands, stronger ones, a lighter load: what held goes on holding -/
theorem whole_mono {t : T} {pw pw' : Str → Int} {L L' : Int} {S S' : Str → Bool} (nd : t.names.Nodup) (hS : ∀ n, S n = true → S' n = true) (hp : ∀ n ∈ t.names, pw n ≤ pw' n) (h1 : 1 ≤ L') (hL : L' ≤ L) {n : Str} (h : whole t pw L S n = true) : whole t pw' L' S' n = true := by
  obtain ⟨d, hd, hw⟩ := whole_iff.mp h
  obtain ⟨hn, hs⟩ := T.div_name hd
  have hn : n ∈ t.names := hn
  have hs : S n = true := hs
  obtain ⟨d', hd'⟩ := T.div_has hn (hS n hs)
  have le : d ≤ d' := T.div_mono hS t nd _ hd _ hd' rfl
  have pos : 1 ≤ d := T.div_pos S t _ hd
  have pp : 0 < pw n := by
    rcases Int.lt_or_le 0 (pw n) with z | z
    · exact z
    · have := Int.mul_nonpos_of_nonpos_of_nonneg z (by omega : 0 ≤ d)
      omega
  have p2 := hp n hn
  refine whole_iff.mpr ⟨d', hd', ?_⟩
  have := Int.mul_le_mul p2 le (by omega) (by omega)
  omega
/-- S holds the load: all of its strands of the tree do -/
def Holds (t : T) (pw : Str → Int) (L : Int) (S : Str → Bool) : Prop := ∀ n, n ∈ t.names → S n = true → whole t pw L S n = true
/-- what holds stays within whatever is left, step by step -/
theorem holds_step {t : T} {pw : Str → Int} {L : Int} {S R : Str → Bool} (nd : t.names.Nodup) (h1 : 1 ≤ L) (hh : Holds t pw L R) (hn : ∀ n, R n = true → n ∈ t.names) (hs : ∀ n, R n = true → S n = true) : ∀ n, R n = true → whole t pw L S n = true := fun n hr =>
  whole_mono nd hs (fun _ _ => Int.le_refl _) h1 (Int.le_refl _) (hh n (hn n hr) hr)
end Wr

set_option Elab.async false
set_option linter.all false
set_option maxRecDepth 100000
set_option maxHeartbeats 2000000
namespace Wr
open PySem PySem.Spec PyProof.Rows L2
/-! ### divisors -/
theorem in_strs (n : Str) : ∀ nm : List Str, inV (.str n) (nm.map V.str) = decide (n ∈ nm)
  | [] => rfl
  | x :: r => by
    have ih := in_strs n r
    unfold inV at ih ⊢
    rw [List.map_cons, List.any_cons, ih]
    show (x == n || _) = _
    by_cases h : x = n
    · subst h
      simp
    · have h2 : ¬ n = x := fun z => h z.symm
      simp [h, h2]
theorem flat_strs : ∀ nm : List Str, (nm.map V.str).all flatV = true
  | [] => rfl
  | x :: r => flat_strs r
/-- a dict of divisors -/
def kvD (l : Dv) : List (L2.Key × V) := l.map fun x => (Sum.inr x.1, .int x.2)
theorem kvD_keys (l : Dv) : (kvD l).map (·.1) = (l.map (·.1)).map Sum.inr := by
  unfold kvD
  rw [List.map_map, List.map_map]
  rfl
/-- the value u is a frozen dict of these divisors -/
def PartAt (H : Hp) (u : V) (d : Dv) : Prop := ∃ p od, u = .ref p ∧ H p = some (.frz od (.dK (kvD d)))
inductive Parts (H : Hp) : List V → List Dv → Prop
  | nil : Parts H [] []
  | cons {u : V} {d : Dv} {us : List V} {ds : List Dv} : PartAt H u d → Parts H us ds → Parts H (u :: us) (d :: ds)
theorem PartAt.le {H H' : Hp} (l : Le H H') {u : V} {d : Dv} (h : PartAt H u d) : PartAt H' u d := let ⟨p, od, e, q⟩ := h; ⟨p, od, e, l.keep _ _ q not_frz⟩
theorem Parts.le {H H' : Hp} (l : Le H H') : ∀ {us : List V} {ds : List Dv}, Parts H us ds → Parts H' us ds
  | _, _, .nil => .nil
  | _, _, .cons h r => .cons (h.le l) (Parts.le l r)
theorem Parts.upd {H : Hp} {D : Addr} {o u : HO} (hD : H D = some o) (hn : ∀ od x, o ≠ .frz od x) : ∀ {us : List V} {ds : List Dv}, Parts H us ds → Parts (upd H D u) us ds
  | _, _, .nil => .nil
  | _, _, .cons ⟨p, od, e, q⟩ r => .cons ⟨p, od, e, by rw [upd_ne (fun z => by rw [z, hD] at q; cases q; exact hn _ _ rfl)]; exact q⟩ (Parts.upd hD hn r)
theorem Parts.snoc {H : Hp} {u : V} {d : Dv} (h : PartAt H u d) : ∀ {us : List V} {ds : List Dv}, Parts H us ds → Parts H (us ++ [u]) (ds ++ [d])
  | _, _, .nil => .cons h .nil
  | _, _, .cons g r => .cons g (Parts.snoc h r)
theorem Parts.len {H : Hp} : ∀ {us : List V} {ds : List Dv}, Parts H us ds → us.length = ds.length
  | _, _, .nil => rfl
  | _, _, .cons _ r => by rw [List.length_cons, List.length_cons, Parts.len r]
theorem Parts.get {H : Hp} : ∀ {us : List V} {ds : List Dv} {i : Nat} {u : V}, Parts H us ds → us[i]? = some u → ∃ d, ds[i]? = some d ∧ PartAt H u d
  | _, _, _, _, .nil, h => by simp at h
  | _, _, 0, _, .cons g r, h => by
    cases h
    exact ⟨_, rfl, g⟩
  | _, _, i + 1, u, .cons g r, h => by
    obtain ⟨d, e, q⟩ := Parts.get (i := i) (u := u) r (by simpa using h)
    exact ⟨d, by simpa using e, q⟩
theorem lst_not_frz {xs : List V} : ∀ od x, HO.lst xs ≠ .frz od x := fun _ _ e => by cases e
theorem dK_not_frz {xs : List (L2.Key × V)} : ∀ od x, HO.dK xs ≠ .frz od x := fun _ _ e => by cases e
theorem kvD_empty (d : Dv) : (!(kvD d).isEmpty) = !d.isEmpty := by
  cases d <;> rfl
theorem filt_take (ds : List Dv) (i : Nat) (d : Dv) (h : ds[i]? = some d) : ((ds.take (i + 1)).filter fun p => !p.isEmpty) = ((ds.take i).filter fun p => !p.isEmpty) ++ (if (!d.isEmpty) = true then [d] else []) := by
  rw [List.take_succ, h, List.filter_append]
  congr 1
  show List.filter _ [d] = _
  rw [List.filter_cons]
  rfl
end Wr

set_option Elab.async false
set_option linter.all false
set_option maxRecDepth 100000
set_option maxHeartbeats 2000000
namespace Wr
open PySem PySem.Spec PyProof.Rows L2
/-! ### divisors: the def -/
section
variable {P : Program} {w : World} {K : PySem.W.Frag} {mg : Str → Option Value} {base : Heap}
abbrev inL (N : List Str) : Str → Bool := fun n => decide (n ∈ N)
def spDiv (K : PySem.W.Frag) (n : Nat) : Sp := fun vs H Q _ => ∃ (v : V) (t : T) (H0 : Hp) (b : Addr) (N : List Str), vs = [v, .ref b] ∧ Le H0 H ∧ Dp K H0 v t.data ∧ (SqL K H b (N.map V.str) ∨ SqT K H b (N.map V.str)) ∧ t.Ok ∧ t.leaves.length ≤ n ∧ n ≤ 60 ∧ t.names.Nodup ∧
  ∀ (p : Addr) (od : Obj) (H' : Hp), Le H H' → H p = none → H' p = some (.frz od (.dK (kvD (t.div (inL N))))) → Q (.ref p) H'
theorem Le.sq2 {H H1 : Hp} (e : Le H H1) {a : Addr} {us : List V} (h : SqL K H a us ∨ SqT K H a us) : SqL K H1 a us ∨ SqT K H1 a us := h.imp e.sql e.sqt
theorem flatK_len (k : Int) (ps : List Dv) : (ps.flatMap fun p => p.map fun x => (x.1, x.2 * k)).length = (ps.flatMap id).length := by
  induction ps with
  | nil => rfl
  | cons p r ih => rw [List.flatMap_cons, List.flatMap_cons, List.length_append, List.length_append, List.length_map, ih]; rfl
theorem T.child_nd {ts : List T} {c : T} (h : (T.node ts).names.Nodup) (hc : c ∈ ts) : c.names.Nodup := by
  obtain ⟨xs, ys, rfl⟩ := List.append_of_mem hc
  have e : (T.node (xs ++ c :: ys)).names = (T.leavesL xs).map (·.1) ++ (c.names ++ (T.leavesL ys).map (·.1)) := by
    show (T.leavesL (xs ++ c :: ys)).map (·.1) = _
    rw [T.leavesL_append, T.leavesL, List.map_append, List.map_append]
    rfl
  rw [e] at h
  exact (List.nodup_append.mp (List.nodup_append.mp h).2.1).1
theorem flat_at (f : Dv → Dv) : ∀ (sh : List Dv) (i j : Nat) (d : Dv), sh[i]? = some d → j < (f d).length → (sh.flatMap f)[((sh.take i).flatMap f).length + j]? = (f d)[j]?
  | [], i, j, d, h, _ => by simp at h
  | p :: r, 0, j, d, h, hj => by
    cases h
    rw [List.take_zero, List.flatMap_nil, List.length_nil, Nat.zero_add, List.flatMap_cons, List.getElem?_append_left hj]
  | p :: r, i + 1, j, d, h, hj => by
    rw [List.take_succ_cons, List.flatMap_cons, List.flatMap_cons, List.length_append, List.getElem?_append_right (by omega)]
    rw [show (f p).length + ((r.take i).flatMap f).length + j - (f p).length = ((r.take i).flatMap f).length + j by omega]
    exact flat_at f r i j d (by simpa using h) hj
theorem flat_cnt (f : Dv → Dv) (sh : List Dv) (i : Nat) (d : Dv) (h : sh[i]? = some d) : ((sh.take (i + 1)).flatMap f).length = ((sh.take i).flatMap f).length + (f d).length := by
  rw [List.take_succ, h, List.flatMap_append, List.length_append]
  show _ + ([d].flatMap f).length = _
  rw [List.flatMap_cons, List.flatMap_nil, List.append_nil]
theorem val_at {kv : List (L2.Key × V)} {i : Nat} {k : L2.Key} {z : V} (nd : (kv.map (·.1)).Nodup) (h : kv[i]? = some (k, z)) : valV kv k = some z := by
  unfold valV
  have hm : (k, z) ∈ kv := List.mem_of_getElem? h
  cases hf : kv.find? (fun x => decide (x.1 = k)) with
  | none => exact absurd (decide_eq_true rfl) (List.find?_eq_none.mp hf _ hm)
  | some y =>
    have hy : y.1 = k := of_decide_eq_true (List.find?_some (p := fun x : L2.Key × V => decide (x.1 = k)) hf)
    have ym := List.mem_of_find?_eq_some hf
    obtain ⟨j, hj, ej⟩ := List.getElem_of_mem ym
    obtain ⟨hi, ei⟩ := List.getElem?_eq_some_iff.mp h
    have pw := List.pairwise_iff_getElem.mp nd
    have eji : j = i := by
      rcases Nat.lt_trichotomy j i with z1 | z1 | z1
      · exact absurd (by rw [List.getElem_map, List.getElem_map, ej, ei]; exact hy) (pw j i (by rw [List.length_map]; exact hj) (by rw [List.length_map]; exact hi) z1)
      · exact z1
      · exact absurd (by rw [List.getElem_map, List.getElem_map, ej, ei]; exact hy.symm) (pw i j (by rw [List.length_map]; exact hi) (by rw [List.length_map]; exact hj) z1)
    subst eji
    rw [ej] at ei
    rw [ei]
    rfl
theorem div_nd {S : Str → Bool} {t : T} (h : t.names.Nodup) : ((kvD (t.div S)).map (·.1)).Nodup := by
  rw [kvD_keys, T.div_keys]
  exact List.Pairwise.map _ (fun a b hab z => hab (Sum.inr.inj z)) (h.filter _)
theorem ok_div (G : Gx K mg) (k : Nat) : ∀ n : Nat, FnOk P w K mg base CX0 (n + k + 1) G.f_divisors G.fd_divisors ["tree", "names"] (spDiv K n)
  | 0 => by
    have no : ∀ vs H Q E, ¬ spDiv K 0 vs H Q E := fun vs H Q E h => by
      obtain ⟨v, t, H0, b, N, _, _, _, _, ho, h1, _⟩ := h
      have := t.lpos ho
      omega
    exact ⟨fun vs H Q E h => absurd h (no vs H Q E), fun A outer s H args us vs Q E _ _ _ _ h => absurd h (no vs H Q E)⟩
  | n + 1 => by
    have G_divisors := ok_div G k n
    have G_is_leaf := (ok_leaf (P := P) (w := w) (base := base) G (n + k)).mono (Nat.le_refl (n + k + 1))
    have lev : n + 1 + k + 1 = (n + k + 1) + 1 := by omega
    rw [lev]
    refine G.F_divisors.ok sc_divisors (fun vs H Q E h => ?_) (fun cdv A outer s H vs Q E hr h => ?_)
    · obtain ⟨v, t, H0, b, N, rfl, _⟩ := h
      rfl
    obtain ⟨v, t, H0, b, N, rfl, l0, hd, hN, ho, hn, hb, nd, q⟩ := h
    refine ⟨_, (pss_cons (ps_if (pt_val (pe_call G_is_leaf hr (by rfl) G.m_is_leaf G.F_is_leaf.kp G.b_is_leaf .nil pass0 (pa_cons (pv 0) pa_nil))) (pss_one (ps_ret (D2.pe_frz (pe_ifExp (pt_cmpR op_in_seq (pe_ix ix_tup (pv 0) pe_int (fun _ _ => rfl)) (pv 1) (by rfl)) (pe_disp (pps_cons (pe_ix ix_tup (pv 0) pe_int (fun _ _ => rfl)) pe_int pps_nil) rfl rfl (by simp) (by decide)) pe_dnewK)))) pss_nil)
    (pss_cons (ps_setLc (i := 2) (own := [("child", 4)]) (g := gName 4) (tt := tYes) (by rfl) sc_divisors.nd rfl rfl (sw_true rfl rfl rfl (by decide +kernel)) (pi_tup (pv 0)) (blkOk_by (own := [("child", 4)]) (N := N_divisors) (sc := defScope s_divisors) (by decide +kernel)) (fun _ _ _ _ _ => (pg_name (i := 4) sc_divisors.nd rfl (.inl rfl) (.inr rfl))) (fun _ _ _ _ _ => pts_nil) (fun _ _ _ _ _ => (pe_call G_divisors hr (by rfl) G.m_divisors G.F_divisors.kp G.b_divisors .nil pass0 (pa_cons (pv 4) (pa_cons (pv 1) pa_nil)))))
    (pss_cons (ps_set (i := 3) sc_divisors.nd rfl (.inr rfl) (pe_lc (own := [("part", 5)]) (g := gName 5) (tt := fun σ H Q => tVar 5 σ H fun x H' => D2.rTruD x H' Q) (by rfl) sc_divisors.nd (pi_list (pv 2)) (blkOk_by (own := [("part", 5)]) (N := N_divisors) (sc := defScope s_divisors) (by decide +kernel)) (fun _ _ _ _ _ => (pg_name (i := 5) sc_divisors.nd rfl (.inl rfl) (.inr rfl))) (fun _ _ _ _ _ => (pts_one (pt_truthR (pv 5) D2.tru_rd (by intro _; rfl)))) (fun _ _ _ _ _ => (pv 5))))
    (pss_one (ps_ret (D2.pe_frz (D2.pe_dc2 (own := [("part", 5), ("name", 6)]) (vs1 := [6]) (wi1 := iKeys _) (g := gName 5) (g1 := gName 6) (tt := tYes) (tt1 := tYes) (by rfl) sc_divisors.nd (pi_list (pv 3)) (blkOk_by (own := [("part", 5), ("name", 6)]) (N := N_divisors) (sc := defScope s_divisors) (by decide +kernel)) (by decide) (fun _ _ _ _ _ => (pg_name (i := 5) sc_divisors.nd rfl (.inl rfl) (.inr rfl))) (fun _ _ _ _ _ => pts_nil) (fun _ _ _ _ _ => (pi_keys (pv 5))) (fun _ _ _ _ _ => (pg_name (i := 6) sc_divisors.nd rfl (.inl rfl) (.inr rfl))) (fun _ _ _ _ _ => pts_nil) (fun _ _ _ _ _ => (pv 6)) (fun _ _ _ _ _ => (pe_op op_mul (pe_dget (hu1 hr) (pv 5) (pv 6) (fun _ _ => rfl)) (pe_callB (r := rLenS K) call_len_seq (by rfl) G.len PySem.boot_len (pa_cons (pv 3) pa_nil))))))))))), ?_⟩
    refine ⟨_, rfl, v, t, rfl, l0.dp hd, ho, _, rfl, ?_⟩
    cases t with
    | leaf nm pw wr =>
      refine iteT ?_
      obtain ⟨a, rfl, hS⟩ := dp_leaf (l := (nm, pw, wr)) hd
      have hS := l0.sqt hS
      refine ⟨_, rfl, a, _, _, _, rfl, rfl, hS, atI_nat (j := 0) rfl, _, rfl, b, _, rfl, hN, rfl, flat_strs N, _, rfl, ?_⟩
      have ein : (if false = true then !inV (.str nm) (N.map V.str) else inV (.str nm) (N.map V.str)) = inL N nm := by
        rw [if_neg Bool.false_ne_true, in_strs]
      rw [ein]
      cases hin : inL N nm with
      | true =>
        refine iteT fun p0 hp0 => ?_
        refine ⟨_, rfl, a, _, _, _, rfl, rfl, (Le.new hp0).sqt hS, atI_nat (j := 0) rfl, upd_same, [(Sum.inr nm, .int 1)], rfl, (by decide : 1 ≤ 15), p0, _, rfl, upd_same, trivial, fun od => ?_⟩
        refine q p0 od _ (((Le.new hp0).mut hp0).mut hp0) hp0 ?_
        rw [upd_same]
        unfold T.div
        rw [if_pos hin]
        rfl
      | false =>
        refine iteF fun p0 hp0 => ⟨p0, _, rfl, upd_same, trivial, fun od => ?_⟩
        refine q p0 od _ ((Le.new hp0).mut hp0) hp0 ?_
        rw [upd_same]
        unfold T.div
        rw [if_neg (by rw [hin]; decide)]
        rfl
    | node ts =>
      refine iteF ?_
      obtain ⟨a, us, rfl, hS0, hAll⟩ := t_items hd
      have hS := l0.sqt hS0
      have hl : us.length = ts.length := by
        rw [dpAll_length hAll]
        show (T.dataL ts).length = _
        rw [T.dataL_map, List.length_map]
      generalize hds : T.divL (inL N) ts = ds
      have dsl : ds.length = ts.length := by
        rw [← hds, T.divL_map, List.length_map]
      have tl : ts.length ≤ 60 := by
        have h1 := T.lposL ts (by unfold T.Ok at ho; exact ho.2)
        have h2 : (T.leavesL ts).length ≤ n + 1 := hn
        omega
      refine ⟨_, rfl, a, rfl, ⟨us, hS⟩, fun D1 hD1 => ?_⟩
      refine ⟨fun i m H2 => m = ts.length - i ∧ i ≤ ts.length ∧ Le H H2 ∧ ∃ acc, H2 D1 = some (.lst acc) ∧ Parts H2 acc (ds.take i), ⟨ts.length, rfl, Nat.zero_le _, Le.new hD1, [], upd_same, .nil⟩, ?_⟩
      rintro i m H2 ⟨rfl, hi, l2, acc, hacc, pacc⟩
      by_cases hlt : i < ts.length
      · have hx : us[i]? = some us[i] := List.getElem?_eq_getElem (by omega)
        refine .inr ⟨⟨us, us[i], l2.sqt hS, hx⟩, fun H' => Le H H' ∧ ∃ acc, H' D1 = some (.lst acc) ∧ Parts H' acc (ds.take (i + 1)), fun H' z => ⟨ts.length - (i + 1), by omega, rfl, hlt, z⟩, fun x H' y => ?_⟩
        obtain ⟨e, y⟩ := y
        subst e
        obtain ⟨d, hdi, hdx⟩ := dpAll_getV hAll (y us (l2.sqt hS))
        have hc : ts[i]? = some ts[i] := List.getElem?_eq_getElem hlt
        have ed : d = ts[i].data := by
          have z : (T.dataL ts)[i]? = some d := hdi
          rw [T.dataL_map, List.getElem?_map, hc] at z
          exact (Option.some.inj z).symm
        subst ed
        have cm : ts[i] ∈ ts := List.getElem_mem hlt
        have co : ts[i].Ok := by
          unfold T.Ok at ho
          exact T.okL_all.mp ho.2 _ cm
        have clt := T.child_lt ho cm
        have edi : ds[i]? = some (ts[i].div (inL N)) := by
          rw [← hds, T.divL_map, List.getElem?_map, hc]
          rfl
        have al := pacc.len
        rw [List.length_take] at al
        refine ⟨rfl, yes_go ⟨_, rfl, _, rfl, x, ts[i], H0, b, N, rfl, l0.trans l2, hdx, l2.sq2 hN, co, by omega, by omega, T.child_nd nd cm, fun p1 od H3 l3 hp1 h3 => ?_⟩⟩
        refine ⟨acc, l3.lst hacc, szlt (by omega), (l2.trans l3).mut hD1, _, upd_same, ?_⟩
        rw [List.take_succ, edi]
        exact Parts.upd (l3.lst hacc) lst_not_frz (Parts.snoc ⟨p1, od, rfl, h3⟩ (pacc.le l3))
      · have ei : i = ts.length := by omega
        subst ei
        rw [← dsl, List.take_length] at pacc
        have al := pacc.len
        refine .inl ⟨⟨us, l2.sqt hS, by omega⟩, ?_⟩
        refine ⟨_, rfl, D1, rfl, ⟨acc, sql hacc⟩, fun D2 hD2 => ?_⟩
        refine ⟨fun i m H3 => m = acc.length - i ∧ i ≤ acc.length ∧ Le H2 H3 ∧ ∃ ac2, H3 D2 = some (.lst ac2) ∧ Parts H3 ac2 ((ds.take i).filter fun p => !p.isEmpty), ⟨acc.length, rfl, Nat.zero_le _, Le.new hD2, [], upd_same, .nil⟩, ?_⟩
        rintro i m H3 ⟨rfl, hi, l3, ac2, hac2, pac2⟩
        by_cases hlt : i < acc.length
        · have hx : acc[i]? = some acc[i] := List.getElem?_eq_getElem hlt
          refine .inr ⟨⟨acc, acc[i], sql (l3.lst hacc), hx⟩, fun H' => Le H2 H' ∧ ∃ ac2, H' D2 = some (.lst ac2) ∧ Parts H' ac2 ((ds.take (i + 1)).filter fun p => !p.isEmpty), fun H' z => ⟨acc.length - (i + 1), by omega, rfl, hlt, z⟩, fun x H' y => ?_⟩
          obtain ⟨e, y⟩ := y
          subst e
          obtain ⟨d, hdi, hpa⟩ := pacc.get (y acc (sql (l3.lst hacc)))
          obtain ⟨p, od, rfl, hp⟩ := hpa.le l3
          have f2 := filt_take ds i d hdi
          have a2 := pac2.len
          have a3 : ((ds.take i).filter fun p => !p.isEmpty).length ≤ ds.length := Nat.le_trans (List.length_filter_le _ _) (by rw [List.length_take]; omega)
          refine ⟨rfl, _, rfl, p, _, rfl, .inr ⟨od, hp⟩, ?_⟩
          rw [kvD_empty]
          cases he : (!d.isEmpty) with
          | true =>
            rw [he, if_pos rfl] at f2
            refine iteT ⟨_, rfl, ac2, hac2, szlt (by omega), l3.mut hD2, _, upd_same, ?_⟩
            rw [f2]
            exact Parts.upd hac2 lst_not_frz (Parts.snoc ⟨p, od, rfl, hp⟩ pac2)
          | false =>
            rw [he, if_neg Bool.false_ne_true, List.append_nil] at f2
            refine iteF ⟨l3, ac2, hac2, ?_⟩
            rw [f2]
            exact pac2
        · have ei : i = acc.length := by omega
          subst ei
          rw [al, List.take_length] at pac2
          refine .inl ⟨⟨acc, sql (l3.lst hacc), Nat.le_refl _⟩, ?_⟩
          refine ⟨_, rfl, D2, rfl, ⟨ac2, sql hac2⟩, fun D3 hD3 => ?_⟩
          generalize hsh : (ds.filter fun p => !p.isEmpty) = sh at pac2
          have al2 := pac2.len
          generalize hf : (fun p : Dv => (p.map fun x => (x.1, x.2 * ((sh.length : Nat) : Int)) : Dv)) = f
          generalize hF : kvD (sh.flatMap f) = F
          have eF : kvD ((T.node ts).div (inL N)) = F := by
            rw [← hF, ← hf, ← hsh, ← hds, T.div]
            rfl
          have kn : (F.map (·.1)).Nodup := by
            rw [← eF]
            exact div_nd nd
          have fl : ∀ d : Dv, (f d).length = d.length := fun d => by
            rw [← hf]
            exact List.length_map _
          have Fl : F.length ≤ 100 := by
            have z := congrArg List.length (T.div_keys (inL N) (T.node ts))
            rw [List.length_map] at z
            have z2 : ((T.node ts).names.filter (inL N)).length ≤ (T.node ts).names.length := List.length_filter_le _ _
            have z3 : (T.node ts).names.length = (T.node ts).leaves.length := List.length_map _
            rw [← eF]
            unfold kvD
            rw [List.length_map]
            omega
          have shl : sh.length ≤ 60 := by
            rw [← hsh]
            exact Nat.le_trans (List.length_filter_le _ _) (by omega)
          refine ⟨fun i m H4 => m = ac2.length - i ∧ i ≤ ac2.length ∧ Le H3 H4 ∧ H4 D3 = some (.dK (F.take ((sh.take i).flatMap f).length)), ⟨ac2.length, rfl, Nat.zero_le _, Le.new hD3, upd_same⟩, ?_⟩
          rintro i m H4 ⟨rfl, hi, l4, h4⟩
          by_cases hlt : i < ac2.length
          · have hx : ac2[i]? = some ac2[i] := List.getElem?_eq_getElem hlt
            refine .inr ⟨⟨ac2, ac2[i], sql (l4.lst hac2), hx⟩, fun H' => Le H3 H' ∧ H' D3 = some (.dK (F.take ((sh.take (i + 1)).flatMap f).length)), fun H' z => ⟨ac2.length - (i + 1), by omega, rfl, hlt, z⟩, fun x H' y => ?_⟩
            obtain ⟨e, y⟩ := y
            subst e
            obtain ⟨d, hdi, p, od, rfl, hp3⟩ := pac2.get (y ac2 (sql (l4.lst hac2)))
            have dm : d ∈ T.divL (inL N) ts := by
              have z : d ∈ sh := List.mem_of_getElem? hdi
              rw [← hsh] at z
              rw [hds]
              exact (List.mem_filter.mp z).1
            have dnd : ((kvD d).map (·.1)).Nodup := by
              rw [T.divL_map] at dm
              obtain ⟨c, hc, rfl⟩ := List.mem_map.mp dm
              exact div_nd (T.child_nd nd hc)
            have kl : (kvD d).length = d.length := List.length_map _
            refine ⟨rfl, yes_go ⟨_, rfl, p, od, rfl, .inl ⟨_, l4.keep _ _ hp3 not_frz, ?_⟩⟩⟩
            refine ⟨fun j m2 H5 => m2 = d.length - j ∧ j ≤ d.length ∧ Le H3 H5 ∧ H5 D3 = some (.dK (F.take (((sh.take i).flatMap f).length + j))), ⟨d.length, rfl, Nat.zero_le _, l4, h4⟩, ?_⟩
            rintro j m2 H5 ⟨rfl, hj, l5, h5⟩
            have hp5 := l5.keep _ _ hp3 not_frz
            by_cases jlt : j < d.length
            · refine .inr ⟨⟨hp5, by rw [kl]; exact jlt⟩, fun H' => Le H3 H' ∧ H' D3 = some (.dK (F.take (((sh.take i).flatMap f).length + (j + 1)))), fun H' z => ⟨d.length - (j + 1), by omega, rfl, jlt, z⟩, fun x2 H' y2 => ?_⟩
              obtain ⟨e, k2, v2, hk2, rfl⟩ := y2
              subst e
              have hdj : d[j]? = some d[j] := List.getElem?_eq_getElem jlt
              generalize d[j] = xj at hdj
              have hkj : (kvD d)[j]? = some (Sum.inr xj.1, .int xj.2) := by
                unfold kvD
                rw [List.getElem?_map, hdj]
                rfl
              rw [hkj] at hk2
              cases hk2
              have hFj : F[((sh.take i).flatMap f).length + j]? = some (Sum.inr xj.1, .int (xj.2 * ((ac2.length : Nat) : Int))) := by
                rw [← hF]
                unfold kvD
                rw [List.getElem?_map, flat_at f sh i j d hdi (by rw [fl]; exact jlt), ← hf, List.getElem?_map, hdj, al2]
                rfl
              refine ⟨rfl, yes_go ⟨_, rfl, _, rfl, _, rfl, p, .int xj.2, rfl, .inl ⟨_, Sum.inr xj.1, .inr ⟨od, hp5⟩, rfl, (val_at dnd hkj).symm⟩, _, rfl, D2, ac2, rfl, .inl (sql (l5.lst hac2)), _, _, rfl, rfl, .inr ⟨by omega, by omega⟩, _, Sum.inr xj.1, rfl, h5, szlt ?_, l5.mut hD3, ?_⟩⟩
              · rw [List.length_take]
                omega
              · rw [upd_same]
                exact congrArg (fun z => some (HO.dK z)) (take_put kn hFj)
            · have ej : j = d.length := by omega
              subst ej
              refine .inl ⟨⟨hp5, by rw [kl]; exact Nat.le_refl _⟩, l5, ?_⟩
              rw [flat_cnt f sh i d hdi, fl]
              exact h5
          · have ei : i = ac2.length := by omega
            subst ei
            have e5 : F.take ((sh.take ac2.length).flatMap f).length = F := by
              rw [al2, List.take_length]
              refine List.take_of_length_le ?_
              rw [← hF]
              unfold kvD
              rw [List.length_map]
              exact Nat.le_refl _
            rw [e5] at h4
            refine .inl ⟨⟨ac2, sql (l4.lst hac2), Nat.le_refl _⟩, D3, _, rfl, h4, trivial, fun od => ?_⟩
            refine q D3 od _ (((l2.trans l3).trans l4).mut ((l2.trans l3).dom _ hD3)) ((l2.trans l3).dom _ hD3) ?_
            rw [upd_same, eF]
end
end Wr

set_option Elab.async false
set_option linter.all false
set_option maxRecDepth 100000
set_option maxHeartbeats 2000000
namespace Wr
open PySem PySem.Spec PyProof.Rows L2
/-! ### the names that hold -/
/-- the names that hold -/
def goodN (pw : Str → Int) (L : Int) (d : Dv) : List Str := (d.filter fun x => decide (L ≤ pw x.1 * x.2)).map (·.1)
theorem good_take (pw : Str → Int) (L : Int) (d : Dv) (i : Nat) (x : Str × Int) (h : d[i]? = some x) : goodN pw L (d.take (i + 1)) = goodN pw L (d.take i) ++ (if L ≤ pw x.1 * x.2 then [x.1] else []) := by
  unfold goodN
  rw [List.take_succ, h, List.filter_append, List.map_append]
  congr 1
  show (List.filter _ [x]).map _ = _
  rw [List.filter_cons]
  by_cases c : L ≤ pw x.1 * x.2
  · rw [if_pos c, if_pos (decide_eq_true c)]
    rfl
  · rw [if_neg c, if_neg (by rw [decide_eq_false c]; decide)]
    rfl
end Wr

set_option Elab.async false
set_option linter.all false
set_option maxRecDepth 100000
set_option maxHeartbeats 2000000
namespace Wr
open PySem PySem.Spec PyProof.Rows L2
/-! ### settle: the largest set that holds -/
/-- a strand's strength after m lifts -/
def T.pw (t : T) (m : Int) (n : Str) : Int := ((t.leaves.find? fun l => decide (l.1 = n)).map fun l => l.2.1 - m * l.2.2).getD 0
theorem pows_val {t : T} {m : Int} {n : Str} (h : n ∈ t.names) : valV (t.pows m) (Sum.inr n) = some (.int (t.pw m n)) := by
  unfold valV T.pows T.pw
  rw [List.find?_map]
  have e : ((fun kv : L2.Key × V => decide (kv.1 = Sum.inr n)) ∘ fun l : Str × Int × Int => ((Sum.inr l.1 : L2.Key), V.int (l.2.1 - m * l.2.2))) = fun l => decide (l.1 = n) := by
    funext l
    show decide ((Sum.inr l.1 : L2.Key) = Sum.inr n) = decide (l.1 = n)
    by_cases c : l.1 = n
    · rw [c]
      simp
    · rw [decide_eq_false c]
      exact decide_eq_false fun z => c (Sum.inr.inj z)
  rw [e]
  cases hf : t.leaves.find? fun l => decide (l.1 = n) with
  | some l => rfl
  | none =>
    obtain ⟨l, hl, e2⟩ := List.mem_map.mp h
    exact absurd (decide_eq_true e2) (List.find?_eq_none.mp hf l hl)
theorem pw_small {t : T} {m : Int} (hp : ∀ l ∈ t.leaves, 0 ≤ l.2.1 ∧ l.2.1 ≤ 100000 ∧ 0 ≤ l.2.2 ∧ l.2.2 ≤ 100000) (h0 : 0 ≤ m) (h1 : m ≤ 1000000) (n : Str) : -(2 ^ 64) < t.pw m n ∧ t.pw m n < 2 ^ 64 := by
  unfold T.pw
  cases hf : t.leaves.find? fun l => decide (l.1 = n) with
  | none => exact (by decide : -(2 ^ 64) < (0 : Int) ∧ (0 : Int) < 2 ^ 64)
  | some l =>
    obtain ⟨a, b, c, d⟩ := hp l (List.mem_of_find?_eq_some hf)
    show -(2 ^ 64) < l.2.1 - m * l.2.2 ∧ l.2.1 - m * l.2.2 < 2 ^ 64
    have z1 : 0 ≤ m * l.2.2 := Int.mul_nonneg h0 c
    have z2 : m * l.2.2 ≤ 1000000 * 100000 := Int.mul_le_mul h1 d c (by decide)
    omega
theorem good_iff {t : T} {pw : Str → Int} {L : Int} {S : Str → Bool} {n : Str} : inL (goodN pw L (t.div S)) n = true ↔ whole t pw L S n = true := by
  rw [whole_iff]
  unfold inL goodN
  rw [decide_eq_true_eq, List.mem_map]
  constructor
  · rintro ⟨x, hx, rfl⟩
    obtain ⟨h1, h2⟩ := List.mem_filter.mp hx
    exact ⟨x.2, h1, of_decide_eq_true h2⟩
  · rintro ⟨d, hd, h⟩
    exact ⟨(n, d), List.mem_filter.mpr ⟨hd, decide_eq_true h⟩, rfl⟩
/-- as many names as there are in the list, if all are the tree's -/
theorem div_len {t : T} {S : Str → Bool} : (t.div S).length = (t.names.filter S).length := by
  rw [← T.div_keys, List.length_map]
theorem good_len {t : T} {pw : Str → Int} {L : Int} {S : Str → Bool} (nd : t.names.Nodup) : (t.div (inL (goodN pw L (t.div S)))).length = (goodN pw L (t.div S)).length := by
  rw [div_len]
  have h1 : (t.div S).map (·.1) = t.names.filter S := T.div_keys S t
  have h2 : (goodN pw L (t.div S)).Sublist t.names := by
    refine List.Sublist.trans ?_ (List.filter_sublist (p := S) (l := t.names))
    rw [← h1]
    exact (List.filter_sublist).map _
  have h3 : t.names.filter (inL (goodN pw L (t.div S))) = goodN pw L (t.div S) := by
    generalize goodN pw L (t.div S) = g at h2
    clear h1
    generalize t.names = ns at h2 nd
    induction h2 with
    | slnil => rfl
    | @cons l1 l2 a hs ih =>
      obtain ⟨na, nd2⟩ := List.nodup_cons.mp nd
      have hn : a ∉ l1 := fun z => na (hs.subset z)
      rw [List.filter_cons_of_neg (by rw [decide_eq_true_eq]; exact hn)]
      exact ih nd2
    | @cons_cons l1 l2 a hs ih =>
      obtain ⟨na, nd2⟩ := List.nodup_cons.mp nd
      rw [List.filter_cons_of_pos (by rw [decide_eq_true_eq]; exact List.mem_cons_self)]
      congr 1
      have e : l2.filter (inL (a :: l1)) = l2.filter (inL l1) := List.filter_congr fun x hx => by
        have hx2 : x ≠ a := fun z => na (by rw [← z]; exact hx)
        show decide (x ∈ a :: l1) = decide (x ∈ l1)
        simp [hx2]
      rw [e]
      exact ih nd2
  rw [h3]
/-- S is the largest part of N that holds -/
structure Best (t : T) (pw : Str → Int) (L : Int) (N S : Str → Bool) : Prop where
  sub : ∀ n, n ∈ t.names → S n = true → N n = true
  holds : Holds t pw L S
  most : ∀ R : Str → Bool, (∀ n, R n = true → n ∈ t.names) → (∀ n, R n = true → N n = true) → Holds t pw L R → ∀ n, R n = true → S n = true
theorem holds_of {t : T} {pw : Str → Int} {L : Int} {S : Str → Bool} (h : (t.div S).length ≤ (goodN pw L (t.div S)).length) : Holds t pw L S := by
  intro n hn hs
  obtain ⟨d, hd⟩ := T.div_has hn hs
  have e : (t.div S).filter (fun x => decide (L ≤ pw x.1 * x.2)) = t.div S := by
    unfold goodN at h
    rw [List.length_map] at h
    exact List.filter_sublist.eq_of_length_le h
  rw [← e] at hd
  exact whole_iff.mpr ⟨d, by rw [← e]; exact hd, of_decide_eq_true (List.mem_filter.mp hd).2⟩
end Wr

set_option Elab.async false
set_option linter.all false
set_option maxRecDepth 100000
set_option maxHeartbeats 2000000
namespace Wr
open PySem PySem.Spec PyProof.Rows L2
def LeafB (t : T) : Prop := ∀ l ∈ t.leaves, 0 ≤ l.2.1 ∧ l.2.1 ≤ 100000 ∧ 0 ≤ l.2.2 ∧ l.2.2 ≤ 100000
end Wr

set_option Elab.async false
set_option linter.all false
set_option maxRecDepth 100000
set_option maxHeartbeats 2000000
namespace Wr
open PySem PySem.Spec PyProof.Rows L2
/-! ### lift_steps: what remains in each lift that succeeds -/
def prevS (Ss : List (Str → Bool)) : Nat → Str → Bool
  | 0 => fun _ => true
  | j + 1 => (Ss[j]?).getD fun _ => true
theorem prev_app (Ss r : List (Str → Bool)) : ∀ j, j ≤ Ss.length → prevS (Ss ++ r) j = prevS Ss j
  | 0, _ => rfl
  | j + 1, h => by
    show ((Ss ++ r)[j]?).getD _ = (Ss[j]?).getD _
    rw [List.getElem?_append_left (by omega)]
/-- the lifts so far -/
def Going (t : T) (Ls : List Int) (Ss : List (Str → Bool)) : Prop := ∀ (j : Nat) (L : Int) (S : Str → Bool), Ls[j]? = some L → Ss[j]? = some S → Best t (t.pw (j : Nat)) L (prevS Ss j) S ∧ (t.div S).isEmpty = false
structure Lifts (t : T) (Ls : List Int) (Ss : List (Str → Bool)) : Prop where
  len : Ss.length ≤ Ls.length
  step : Going t Ls Ss
  stop : ∀ L, Ls[Ss.length]? = some L → ∃ S, Best t (t.pw (Ss.length : Nat)) L (prevS Ss Ss.length) S ∧ (t.div S).isEmpty = true
theorem Best.eq {t : T} {pw : Str → Int} {L : Int} {N N' S : Str → Bool} (h : Best t pw L N S) (e : ∀ n ∈ t.names, N n = N' n) : Best t pw L N' S :=
  ⟨fun n hn hs => by rw [← e n hn]; exact h.sub n hn hs, h.holds, fun R r1 r2 r3 => h.most R r1 (fun n hr => by rw [e n (r1 n hr)]; exact r2 n hr) r3⟩
theorem Going.snoc {t : T} {Ls : List Int} {Ss : List (Str → Bool)} {S : Str → Bool} (h : Going t Ls Ss) (g : ∀ L, Ls[Ss.length]? = some L → Best t (t.pw (Ss.length : Nat)) L (prevS Ss Ss.length) S ∧ (t.div S).isEmpty = false) : Going t Ls (Ss ++ [S]) := by
  intro j L S' hL hS
  rcases Nat.lt_trichotomy j Ss.length with z | z | z
  · rw [prev_app Ss [S] j (by omega)]
    rw [List.getElem?_append_left z] at hS
    exact h j L S' hL hS
  · subst z
    rw [prev_app Ss [S] _ (Nat.le_refl _)]
    rw [List.getElem?_append_right (Nat.le_refl _), Nat.sub_self] at hS
    cases hS
    exact g L hL
  · rw [List.getElem?_eq_none (by rw [List.length_append, List.length_singleton]; omega)] at hS
    cases hS
theorem keys_strs (d : Dv) : (kvD d).map (fun kv => kV kv.1) = (d.map (·.1)).map V.str := by
  unfold kvD
  rw [List.map_map, List.map_map]
  rfl
end Wr

set_option Elab.async false
set_option linter.all false
set_option maxRecDepth 100000
set_option maxHeartbeats 2000000
namespace Wr
open PySem PySem.Spec PyProof.Rows L2
/-! ### what is left after a sequence, as a function: pure -/
mutual
theorem T.div_congr {S S' : Str → Bool} : ∀ t : T, (∀ n ∈ t.names, S n = S' n) → t.div S = t.div S'
  | .leaf n p w, h => by
    have e := h n (by unfold T.names T.leaves; simp)
    unfold T.div
    rw [e]
  | .node ts, h => by
    unfold T.div
    rw [T.divL_congr ts h]
theorem T.divL_congr {S S' : Str → Bool} : ∀ ts : List T, (∀ n ∈ (T.leavesL ts).map (·.1), S n = S' n) → T.divL S ts = T.divL S' ts
  | [], _ => rfl
  | t :: r, h => by
    rw [T.leavesL, List.map_append] at h
    rw [T.divL, T.divL, T.div_congr t fun n hn => h n (List.mem_append_left _ hn), T.divL_congr r fun n hn => h n (List.mem_append_right _ hn)]
end
theorem whole_congr {t : T} {pw : Str → Int} {L : Int} {S S' : Str → Bool} (h : ∀ n ∈ t.names, S n = S' n) : whole t pw L S = whole t pw L S' := by
  unfold whole
  rw [T.div_congr t h]
theorem Holds.congr {t : T} {pw : Str → Int} {L : Int} {S S' : Str → Bool} (h : ∀ n ∈ t.names, S n = S' n) (a : Holds t pw L S) : Holds t pw L S' := fun n hn hs => by
  rw [← whole_congr h]
  exact a n hn (by rw [h n hn]; exact hs)
/-- A lies in B -/
def Sub (A B : Str → Bool) : Prop := ∀ n, A n = true → B n = true
theorem Sub.refl (A : Str → Bool) : Sub A A := fun _ h => h
theorem Sub.trans {A B C : Str → Bool} (a : Sub A B) (b : Sub B C) : Sub A C := fun n h => b n (a n h)
theorem Sub.eq {A B : Str → Bool} (a : Sub A B) (b : Sub B A) : A = B := by
  funext n
  cases h : A n with
  | true => rw [a n h]
  | false =>
    cases h2 : B n with
    | false => rfl
    | true => rw [b n h2] at h; cases h
/-- the tree's own names -/
def T.all (t : T) : Str → Bool := fun n => decide (n ∈ t.names)
theorem T.all_iff {t : T} {n : Str} : t.all n = true ↔ n ∈ t.names := decide_eq_true_iff
open Classical in
/-- the largest part of N that holds the load -/
noncomputable def T.best (t : T) (pw : Str → Int) (L : Int) (N : Str → Bool) : Str → Bool := fun n => decide (∃ R : Str → Bool, Sub R t.all ∧ Sub R N ∧ Holds t pw L R ∧ R n = true)
section
variable {t : T} {pw pw' : Str → Int} {L L' : Int} {N N' S : Str → Bool}
open Classical in
theorem best_iff {n : Str} : t.best pw L N n = true ↔ ∃ R : Str → Bool, Sub R t.all ∧ Sub R N ∧ Holds t pw L R ∧ R n = true := by
  unfold T.best
  exact decide_eq_true_iff
theorem best_all : Sub (t.best pw L N) t.all := fun n h => let ⟨R, r1, _, _, r⟩ := best_iff.mp h; r1 n r
theorem best_sub : Sub (t.best pw L N) N := fun n h => let ⟨R, _, r2, _, r⟩ := best_iff.mp h; r2 n r
theorem best_most {R : Str → Bool} (r1 : Sub R t.all) (r2 : Sub R N) (r3 : Holds t pw L R) : Sub R (t.best pw L N) := fun n h => best_iff.mpr ⟨R, r1, r2, r3, h⟩
theorem best_holds (nd : t.names.Nodup) (h1 : 1 ≤ L) : Holds t pw L (t.best pw L N) := fun n hn h => by
  obtain ⟨R, r1, r2, r3, r⟩ := best_iff.mp h
  exact whole_mono nd (best_most r1 r2 r3) (fun _ _ => Int.le_refl _) h1 (Int.le_refl _) (r3 n hn r)
theorem holds_mono {R : Str → Bool} (nd : t.names.Nodup) (hp : ∀ n ∈ t.names, pw n ≤ pw' n) (h1 : 1 ≤ L') (hL : L' ≤ L) (h : Holds t pw L R) : Holds t pw' L' R := fun n hn hr => whole_mono nd (Sub.refl R) hp h1 hL (h n hn hr)
theorem best_mono (nd : t.names.Nodup) (hN : Sub N N') (hp : ∀ n ∈ t.names, pw n ≤ pw' n) (h1 : 1 ≤ L') (hL : L' ≤ L) : Sub (t.best pw L N) (t.best pw' L' N') := fun n h => by
  obtain ⟨R, r1, r2, r3, r⟩ := best_iff.mp h
  exact best_iff.mpr ⟨R, r1, r2.trans hN, holds_mono nd hp h1 hL r3, r⟩
theorem best_congr (h : ∀ n ∈ t.names, N n = N' n) : t.best pw L N = t.best pw L N' := by
  refine Sub.eq (fun n z => ?_) (fun n z => ?_)
  · obtain ⟨R, r1, r2, r3, r⟩ := best_iff.mp z
    exact best_iff.mpr ⟨R, r1, fun m hm => by rw [← h m (T.all_iff.mp (r1 m hm))]; exact r2 m hm, r3, r⟩
  · obtain ⟨R, r1, r2, r3, r⟩ := best_iff.mp z
    exact best_iff.mpr ⟨R, r1, fun m hm => by rw [h m (T.all_iff.mp (r1 m hm))]; exact r2 m hm, r3, r⟩
/-- Best tells the function -/
theorem Best.at (h : Best t pw L N S) : ∀ n ∈ t.names, S n = t.best pw L N n := fun n hn => by
  have e : ∀ m ∈ t.names, S m = (fun m => S m && t.all m) m := fun m hm => by
    show S m = (S m && t.all m)
    rw [T.all_iff.mpr hm, Bool.and_true]
  cases hs : S n with
  | true =>
    refine (best_iff.mpr ⟨fun m => S m && t.all m, fun m z => (Bool.and_eq_true_iff.mp z).2, fun m z => ?_, h.holds.congr e, ?_⟩).symm
    · obtain ⟨z1, z2⟩ := Bool.and_eq_true_iff.mp z
      exact h.sub m (T.all_iff.mp z2) z1
    · rw [← e n hn]
      exact hs
  | false =>
    cases hb : t.best pw L N n with
    | false => rfl
    | true =>
      obtain ⟨R, r1, r2, r3, r⟩ := best_iff.mp hb
      rw [h.most R (fun m z => T.all_iff.mp (r1 m z)) r2 r3 n r] at hs
      cases hs
end
/-- what remains of N after these lifts, the first of which is lift number j -/
noncomputable def T.run (t : T) : Nat → (Str → Bool) → List Int → Str → Bool
  | _, N, [] => N
  | j, N, L :: Ls => t.run (j + 1) (t.best (t.pw (j : Nat)) L N) Ls
noncomputable def T.left (t : T) (Ls : List Int) : Str → Bool := t.run 0 t.all Ls
/-- some strand remains -/
def Some1 (S : Str → Bool) : Prop := ∃ n, S n = true
def T.works (t : T) (Ls : List Int) : Prop := Some1 (t.left Ls)
section
variable {t : T}
theorem run_append : ∀ (xs ys : List Int) (j : Nat) (N : Str → Bool), t.run j N (xs ++ ys) = t.run (j + xs.length) (t.run j N xs) ys
  | [], ys, j, N => rfl
  | x :: xs, ys, j, N => by
    rw [List.cons_append, T.run, T.run, run_append xs ys, List.length_cons]
    rw [show j + 1 + xs.length = j + (xs.length + 1) by omega]
theorem run_sub : ∀ (Ls : List Int) (j : Nat) (N : Str → Bool), Sub (t.run j N Ls) N
  | [], _, N => Sub.refl N
  | L :: Ls, j, N => (run_sub Ls (j + 1) _).trans best_sub
theorem left_all (Ls : List Int) : Sub (t.left Ls) t.all := run_sub Ls 0 t.all
/-- strands with these bounds wear out -/
def LeafW (t : T) : Prop := ∀ l ∈ t.leaves, 0 ≤ l.2.2
theorem pw_anti (hw : LeafW t) {i j : Nat} (h : i ≤ j) (n : Str) : t.pw (j : Nat) n ≤ t.pw (i : Nat) n := by
  unfold T.pw
  cases hf : t.leaves.find? fun l => decide (l.1 = n) with
  | none => exact Int.le_refl _
  | some l =>
    have z := hw l (List.mem_of_find?_eq_some hf)
    show l.2.1 - (j : Nat) * l.2.2 ≤ l.2.1 - (i : Nat) * l.2.2
    have := Int.mul_le_mul_of_nonneg_right (show ((i : Nat) : Int) ≤ (j : Nat) by omega) z
    omega
theorem run_mono (nd : t.names.Nodup) : ∀ (Ls : List Int) (j : Nat) (N N' : Str → Bool), (∀ L ∈ Ls, 1 ≤ L) → Sub N N' → Sub (t.run j N Ls) (t.run j N' Ls)
  | [], _, N, N', _, h => h
  | L :: Ls, j, N, N', hL, h => run_mono nd Ls (j + 1) _ _ (fun x hx => hL x (List.mem_cons_of_mem _ hx)) (best_mono nd h (fun _ _ => Int.le_refl _) (hL L List.mem_cons_self) (Int.le_refl _))
/-- the heavier load first: no strand is lost by it -/
theorem swap2 (nd : t.names.Nodup) (hw : LeafW t) {a b : Int} (ha : 1 ≤ a) (hab : a ≤ b) (j : Nat) (N : Str → Bool) : Sub (t.run j N [a, b]) (t.run j N [b, a]) := by
  show Sub (t.best (t.pw ((j + 1 : Nat))) b (t.best (t.pw (j : Nat)) a N)) (t.best (t.pw ((j + 1 : Nat))) a (t.best (t.pw (j : Nat)) b N))
  have h := best_holds (t := t) (pw := t.pw ((j + 1 : Nat))) (N := t.best (t.pw (j : Nat)) a N) nd (by omega : 1 ≤ b)
  have h1 : Holds t (t.pw (j : Nat)) b (t.best (t.pw ((j + 1 : Nat))) b (t.best (t.pw (j : Nat)) a N)) := holds_mono nd (fun n _ => pw_anti hw (by omega) n) (by omega) (Int.le_refl _) h
  have h2 := holds_mono (pw' := t.pw ((j + 1 : Nat))) nd (fun n _ => Int.le_refl _) ha hab h
  exact best_most best_all (best_most best_all (best_sub.trans best_sub) h1) h2
theorem swap_run (nd : t.names.Nodup) (hw : LeafW t) {a b : Int} (hab : a ≤ b) (xs ys : List Int) (h : ∀ L ∈ xs ++ a :: b :: ys, 1 ≤ L) (j : Nat) (N : Str → Bool) : Sub (t.run j N (xs ++ a :: b :: ys)) (t.run j N (xs ++ b :: a :: ys)) := by
  rw [run_append, run_append]
  have e1 := run_append (t := t) [a, b] ys (j + xs.length) (t.run j N xs)
  have e2 := run_append (t := t) [b, a] ys (j + xs.length) (t.run j N xs)
  rw [List.cons_append, List.cons_append, List.nil_append] at e1 e2
  rw [e1, e2]
  exact run_mono nd ys _ _ _ (fun L hL => h L (List.mem_append_right _ (List.mem_cons_of_mem _ (List.mem_cons_of_mem _ hL)))) (swap2 nd hw (h a (List.mem_append_right _ List.mem_cons_self)) hab _ _)
theorem div_none {S : Str → Bool} (h : Sub S t.all) : (t.div S).isEmpty = true ↔ ¬ Some1 S := by
  rw [T.div_empty]
  constructor
  · rintro h1 ⟨n, hn⟩
    rw [h1 n (T.all_iff.mp (h n hn))] at hn
    cases hn
  · intro h1 n _
    cases hs : S n with
    | false => rfl
    | true => exact absurd ⟨n, hs⟩ h1
theorem left_snoc (Ls : List Int) (L : Int) : t.left (Ls ++ [L]) = t.best (t.pw (Ls.length : Nat)) L (t.left Ls) := by
  unfold T.left
  rw [run_append, Nat.zero_add]
  rfl
/-- how many lifts succeed: m, by what is left after each -/
def CountL (t : T) (Ls : List Int) (m : Nat) : Prop := m ≤ Ls.length ∧ (∀ i, i ≤ m → Some1 (t.left (Ls.take i))) ∧ (m < Ls.length → ¬ Some1 (t.left (Ls.take (m + 1))))
theorem Some1.mono {A B : Str → Bool} (h : Sub A B) (a : Some1 A) : Some1 B := let ⟨n, hn⟩ := a; ⟨n, h n hn⟩
theorem left_take_sub (Ls : List Int) {i j : Nat} (h : i ≤ j) : Sub (t.left (Ls.take j)) (t.left (Ls.take i)) := by
  have e : Ls.take j = Ls.take i ++ (Ls.take j).drop i := by
    rw [show Ls.take i = (Ls.take j).take i by rw [List.take_take, Nat.min_eq_left h], List.take_append_drop]
  rw [e]
  unfold T.left
  rw [run_append]
  exact run_sub _ _ _
/-- all lifts succeed exactly if something is left -/
theorem CountL.all {Ls : List Int} {m : Nat} (h : CountL t Ls m) : m = Ls.length ↔ t.works Ls := by
  obtain ⟨h1, h2, h3⟩ := h
  constructor
  · intro e
    have z := h2 m (Nat.le_refl _)
    rw [e, List.take_length] at z
    exact z
  · intro z
    rcases Nat.lt_or_ge m Ls.length with c | c
    · exfalso
      refine h3 c (Some1.mono ?_ z)
      have := left_take_sub (t := t) Ls (show m + 1 ≤ Ls.length by omega)
      rw [List.take_length] at this
      exact this
    · omega
theorem lifts_at {Ls : List Int} {Ss : List (Str → Bool)} (h : Lifts t Ls Ss) : ∀ i, i ≤ Ss.length → ∀ n ∈ t.names, prevS Ss i n = t.left (Ls.take i) n
  | 0, _, n, hn => by
    show true = t.all n
    exact (T.all_iff.mpr hn).symm
  | i + 1, hi, n, hn => by
    have ih := lifts_at h i (by omega)
    have hl := h.len
    have e1 : Ls[i]? = some Ls[i] := List.getElem?_eq_getElem (by omega)
    have e2 : Ss[i]? = some Ss[i] := List.getElem?_eq_getElem (by omega)
    have z := (h.step i _ _ e1 e2).1
    have et : Ls.take (i + 1) = Ls.take i ++ [Ls[i]] := by rw [List.take_succ, e1]; rfl
    have ep : prevS Ss (i + 1) = Ss[i] := by
      show (Ss[i]?).getD _ = _
      rw [e2]
      rfl
    rw [ep, z.at n hn, et, left_snoc, List.length_take, Nat.min_eq_left (by omega), best_congr ih]
theorem lifts_count (hpos : Some1 t.all) {Ls : List Int} {Ss : List (Str → Bool)} (h : Lifts t Ls Ss) : CountL t Ls Ss.length := by
  have hl := h.len
  have emp : ∀ S : Str → Bool, ∀ S' : Str → Bool, (∀ n ∈ t.names, S n = S' n) → Sub S' t.all → ((t.div S).isEmpty = true ↔ ¬ Some1 S') := fun S S' e hs => by
    rw [T.div_congr t e, div_none hs]
  refine ⟨hl, fun i hi => ?_, fun hlt => ?_⟩
  · cases i with
    | zero => exact hpos
    | succ i =>
      have e1 : Ls[i]? = some Ls[i] := List.getElem?_eq_getElem (by omega)
      have e2 : Ss[i]? = some Ss[i] := List.getElem?_eq_getElem (by omega)
      have z := (h.step i _ _ e1 e2).2
      have ep : prevS Ss (i + 1) = Ss[i] := by
        show (Ss[i]?).getD _ = _
        rw [e2]
        rfl
      have q := emp Ss[i] (t.left (Ls.take (i + 1))) (fun n hn => by rw [← ep]; exact lifts_at h (i + 1) hi n hn) (left_all _)
      by_cases c : Some1 (t.left (Ls.take (i + 1)))
      · exact c
      · rw [q.mpr c] at z
        cases z
  · have e1 : Ls[Ss.length]? = some Ls[Ss.length] := List.getElem?_eq_getElem hlt
    obtain ⟨S, b, z⟩ := h.stop _ e1
    have et : Ls.take (Ss.length + 1) = Ls.take Ss.length ++ [Ls[Ss.length]] := by rw [List.take_succ, e1]; rfl
    refine (emp S _ (fun n hn => ?_) (left_all _)).mp z
    rw [b.at n hn, et, left_snoc, List.length_take, Nat.min_eq_left hl, best_congr (lifts_at h _ (Nat.le_refl _))]
end
theorem some_all {t : T} (ho : t.Ok) : Some1 t.all := by
  have h := t.lpos ho
  obtain ⟨l, hl⟩ := List.exists_mem_of_length_pos (show 0 < t.leaves.length by omega)
  exact ⟨l.1, T.all_iff.mpr (List.mem_map.mpr ⟨l, hl, rfl⟩)⟩
end Wr

set_option Elab.async false
set_option linter.all false
set_option maxRecDepth 100000
set_option maxHeartbeats 2000000
namespace Wr
open PySem PySem.Spec PyProof.Rows L2
/-! ### a node's items -/
theorem node_items {K : PySem.W.Frag} {H : Hp} {v : V} {ts : List T} (h : Dp K H v (T.node ts).data) : ∃ a us, v = .ref a ∧ SqT K H a us ∧ us.length = ts.length ∧ ∀ (i : Nat) (u : V), us[i]? = some u → ∃ c, ts[i]? = some c ∧ c ∈ ts ∧ Dp K H u c.data := by
  obtain ⟨a, us, rfl, hS, hAll⟩ := t_items h
  have hl : us.length = ts.length := by
    rw [dpAll_length hAll]
    show (T.dataL ts).length = _
    rw [T.dataL_map, List.length_map]
  refine ⟨a, us, rfl, hS, hl, fun i u hu => ?_⟩
  obtain ⟨d, hdi, hdx⟩ := dpAll_getV hAll hu
  have hi : i < ts.length := by
    have := (List.getElem?_eq_some_iff.mp hu).1
    omega
  have hc : ts[i]? = some ts[i] := List.getElem?_eq_getElem hi
  have ed : d = ts[i].data := by
    have z : (T.dataL ts)[i]? = some d := hdi
    rw [T.dataL_map, List.getElem?_map, hc] at z
    exact (Option.some.inj z).symm
  exact ⟨ts[i], hc, List.getElem_mem hi, by rw [← ed]; exact hdx⟩
theorem T.child_ok {ts : List T} {c : T} (h : (T.node ts).Ok) (hc : c ∈ ts) : c.Ok := by
  unfold T.Ok at h
  exact T.okL_all.mp h.2 _ hc
/-- isinstance(tree[0], str) -/
theorem first_isi {K : PySem.W.Frag} {H : Hp} {v : V} {t : T} (h : Dp K H v t.data) (ho : t.Ok) : ∃ a us x, v = .ref a ∧ SqT K H a us ∧ atI us 0 = some x ∧ ∃ d, Dp K H x d ∧ isStrD d = t.isLeaf := by
  obtain ⟨a, us, rfl, hS, hAll⟩ := t_items h
  obtain ⟨d, r, hi, hl⟩ := t_first ho
  rw [hi] at hAll
  cases hAll with
  | @cons x0 d0 us0 ds0 h0 hr0 => exact ⟨a, _, x0, rfl, hS, atI_nat (j := 0) rfl, d, h0, hl⟩
theorem leavesL_len {ts : List T} (i : Nat) : (T.leavesL (ts.take i)).length ≤ (T.leavesL ts).length := by
  have e := congrArg List.length (T.leavesL_append (ts.take i) (ts.drop i))
  rw [List.take_append_drop, List.length_append] at e
  omega
end Wr

set_option Elab.async false
set_option linter.all false
set_option maxRecDepth 100000
set_option maxHeartbeats 2000000
namespace Wr
open PySem PySem.Spec PyProof.Rows L2
/-! ### rigs on the heap; all subsets of some names; capacity: pure -/
structure RigAt (K : PySem.W.Frag) (H : Hp) (v : V) (t : T) : Prop where
  dp : Dp K H v t.data
  ok : t.Ok
  len : t.leaves.length ≤ 6
  nd : t.names.Nodup
  lb : LeafB t
  sok : ∀ n ∈ t.names, PyData.strOk n = true
theorem RigAt.le {K : PySem.W.Frag} {H H' : Hp} (e : Le H H') {v : V} {t : T} (h : RigAt K H v t) : RigAt K H' v t := ⟨e.dp h.dp, h.ok, h.len, h.nd, h.lb, h.sok⟩
theorem LeafB.w {t : T} (h : LeafB t) : LeafW t := fun l hl => (h l hl).2.2.1
def subsR : List Str → List (List Str)
  | [] => [[]]
  | x :: r => subsR r ++ (subsR r).map (· ++ [x])
/-- all parts of a list of names, as the law lists them -/
def subs (ns : List Str) : List (List Str) := subsR ns.reverse
theorem subs_snoc (ns : List Str) (x : Str) : subs (ns ++ [x]) = subs ns ++ (subs ns).map (· ++ [x]) := by
  unfold subs
  rw [List.reverse_append]
  rfl
theorem subsR_len : ∀ r : List Str, (subsR r).length = 2 ^ r.length
  | [] => rfl
  | x :: r => by
    rw [subsR, List.length_append, List.length_map, subsR_len r, List.length_cons, Nat.pow_succ]
    omega
theorem subs_len (ns : List Str) : (subs ns).length = 2 ^ ns.length := by
  unfold subs
  rw [subsR_len, List.length_reverse]
theorem subsR_mem : ∀ (r s : List Str), s ∈ subsR r ↔ s.Sublist r.reverse
  | [], s => by
    rw [subsR, List.mem_singleton, List.reverse_nil, List.sublist_nil]
  | x :: r, s => by
    rw [subsR, List.mem_append, List.mem_map, List.reverse_cons, subsR_mem r s, List.sublist_append_iff]
    constructor
    · rintro (h | ⟨a, ha, rfl⟩)
      · exact ⟨s, [], (List.append_nil s).symm, h, List.nil_sublist _⟩
      · exact ⟨a, [x], rfl, (subsR_mem r a).mp ha, List.Sublist.refl _⟩
    · rintro ⟨a, b, rfl, h1, h2⟩
      cases h2 with
      | cons _ h2 =>
        rw [List.sublist_nil] at h2
        rw [h2, List.append_nil]
        exact .inl h1
      | cons_cons _ h2 =>
        rw [List.sublist_nil] at h2
        rw [h2]
        exact .inr ⟨a, (subsR_mem r a).mpr h1, rfl⟩
theorem subs_mem (ns s : List Str) : s ∈ subs ns ↔ s.Sublist ns := by
  unfold subs
  rw [subsR_mem, List.reverse_reverse]
theorem subsR_head : ∀ r : List Str, ∃ tl, subsR r = [] :: tl ∧ ∀ s ∈ tl, s ≠ []
  | [] => ⟨[], rfl, fun _ h => by cases h⟩
  | x :: r => by
    obtain ⟨tl, e, h⟩ := subsR_head r
    refine ⟨tl ++ (subsR r).map (· ++ [x]), by rw [subsR, e]; rfl, fun s hs => ?_⟩
    rcases List.mem_append.mp hs with z | z
    · exact h s z
    · obtain ⟨a, _, rfl⟩ := List.mem_map.mp z
      simp
theorem subs_head (ns : List Str) : ∃ tl, subs ns = [] :: tl ∧ ∀ s ∈ tl, s ≠ [] := subsR_head ns.reverse
/-! a tuple of texts, as data -/
def subD (s : List Str) : PyData := .tuple (s.map .str)
theorem strs_dpAll {K : PySem.W.Frag} {H : Hp} : ∀ s : List Str, DpAll K H (s.map V.str) (s.map PyData.str)
  | [] => .nil
  | x :: r => .cons (.str x) (strs_dpAll r)
theorem subD_of {K : PySem.W.Frag} {H : Hp} {a : Addr} {s : List Str} (h : SqT K H a (s.map V.str)) : Dp K H (.ref a) (subD s) := .tup h (strs_dpAll s)
theorem dpAll_strs {K : PySem.W.Frag} {H : Hp} : ∀ {us : List V} {s : List Str}, DpAll K H us (s.map PyData.str) → us = s.map V.str
  | _, [], h => by
    cases h
    rfl
  | _, x :: r, h => by
    rw [List.map_cons] at h
    cases h with
    | cons h1 h2 =>
      cases h1
      rw [dpAll_strs h2, List.map_cons]
theorem of_subD {K : PySem.W.Frag} {H : Hp} {v : V} {s : List Str} (h : Dp K H v (subD s)) : ∃ a, v = .ref a ∧ SqT K H a (s.map V.str) := by
  unfold subD at h
  cases h with
  | tup h r =>
    rw [dpAll_strs r] at h
    exact ⟨_, rfl, h⟩
theorem dpAll_cons {K : PySem.W.Frag} {H : Hp} {us : List V} {d : PyData} {ds : List PyData} (h : DpAll K H us (d :: ds)) : ∃ u ur, us = u :: ur ∧ Dp K H u d ∧ DpAll K H ur ds := by
  cases h with
  | cons h1 h2 => exact ⟨_, _, rfl, h1, h2⟩
/-! data without lists stays when a list is written -/
theorem sqt_upd {K : PySem.W.Frag} {H : Hp} {D a : Addr} {xs ys : List V} {o : HO} (hD : H D = some (.lst xs)) (h : SqT K H a ys) : SqT K (upd H D o) a ys := by
  rcases h with (h | ⟨u, h⟩) | h
  · exact .inl (.inl (by rw [upd_ne (fun z => by rw [z, hD] at h; cases h)]; exact h))
  · exact .inl (.inr ⟨u, by rw [upd_ne (fun z => by rw [z, hD] at h; cases h)]; exact h⟩)
  · exact .inr h
mutual
def tupO : PyData → Bool
  | .list _ => false
  | .dict _ => false
  | .tuple ds => tupOL ds
  | .none => true
  | .bool _ => true
  | .int _ => true
  | .str _ => true
def tupOL : List PyData → Bool
  | [] => true
  | d :: r => tupO d && tupOL r
end
mutual
theorem dp_upd {K : PySem.W.Frag} {H : Hp} {D : Addr} {xs : List V} {o : HO} (hD : H D = some (.lst xs)) : ∀ {v : V} {d : PyData}, tupO d = true → Dp K H v d → Dp K (upd H D o) v d
  | _, _, _, .non => .non
  | _, _, _, .bl b => .bl b
  | _, _, _, .int i => .int i
  | _, _, _, .str x => .str x
  | _, _, e, .lst h r => by simp [tupO] at e
  | _, _, e, .tup h r => .tup (sqt_upd hD h) (dpAll_upd hD (by simpa [tupO] using e) r)
theorem dpAll_upd {K : PySem.W.Frag} {H : Hp} {D : Addr} {xs : List V} {o : HO} (hD : H D = some (.lst xs)) : ∀ {vs : List V} {ds : List PyData}, tupOL ds = true → DpAll K H vs ds → DpAll K (upd H D o) vs ds
  | _, _, _, .nil => .nil
  | _, _, e, .cons h r => by
    simp only [tupOL, Bool.and_eq_true] at e
    exact .cons (dp_upd hD e.1 h) (dpAll_upd hD e.2 r)
end
theorem tupOL_all {ds : List PyData} : tupOL ds = true ↔ ∀ d ∈ ds, tupO d = true := by
  induction ds with
  | nil => simp [tupOL]
  | cons d r ih => simp [tupOL, ih]
theorem tupO_sub (s : List Str) : tupO (subD s) = true := by
  unfold subD tupO
  rw [tupOL_all]
  intro d hd
  obtain ⟨x, _, rfl⟩ := List.mem_map.mp hd
  rfl
/-! dicts made of distinct pairs -/
theorem mergeK_all {kv : List (L2.Key × V)} (nd : (kv.map (·.1)).Nodup) : ∀ i, i ≤ kv.length → mergeK (kv.take i) (kv.drop i) = kv := by
  intro i hi
  induction h : kv.length - i generalizing i with
  | zero =>
    have e : i = kv.length := by omega
    rw [e, List.take_length, List.drop_length]
    rfl
  | succ m ih =>
    have hlt : i < kv.length := by omega
    have e : kv.drop i = kv[i] :: kv.drop (i + 1) := List.drop_eq_getElem_cons hlt
    rw [e]
    show mergeK (putK (kv.take i) kv[i].1 kv[i].2) (kv.drop (i + 1)) = kv
    have z : putK (kv.take i) kv[i].1 kv[i].2 = kv.take (i + 1) := take_put nd (List.getElem?_eq_getElem hlt)
    rw [z]
    exact ih (i + 1) hlt (by omega)
theorem mergeK_nil {kv : List (L2.Key × V)} (nd : (kv.map (·.1)).Nodup) : mergeK [] kv = kv := mergeK_all nd 0 (Nat.zero_le _)
theorem pows_keys (t : T) (m : Int) : (t.pows m).map (·.1) = t.names.map Sum.inr := by
  unfold T.pows T.names
  rw [List.map_map, List.map_map]
  rfl
theorem inr_nd {l : List Str} (h : l.Nodup) : (l.map (Sum.inr : Str → L2.Key)).Nodup := List.Pairwise.map _ (fun a b hab z => hab (Sum.inr.inj z)) h
theorem pows_nd {t : T} (nd : t.names.Nodup) (m : Int) : ((t.pows m).map (·.1)).Nodup := by
  rw [pows_keys]
  exact inr_nd nd
theorem val_mem {d : Dv} {n : Str} {x : Int} (nd : ((kvD d).map (·.1)).Nodup) (h : (n, x) ∈ d) : valV (kvD d) (Sum.inr n) = some (.int x) := by
  obtain ⟨i, hi, e⟩ := List.getElem_of_mem h
  refine val_at (i := i) nd ?_
  unfold kvD
  rw [List.getElem?_map, List.getElem?_eq_getElem hi, e]
  rfl
theorem div_uniq {t : T} {S : Str → Bool} {n : Str} {x y : Int} (nd : t.names.Nodup) (h1 : (n, x) ∈ t.div S) (h2 : (n, y) ∈ t.div S) : x = y := by
  have a := T.div_mono (S := S) (S' := S) (fun _ z => z) t nd _ h1 _ h2 rfl
  have b := T.div_mono (S := S) (S' := S) (fun _ z => z) t nd _ h2 _ h1 rfl
  have a : x ≤ y := a
  have b : y ≤ x := b
  omega
/-- the divisor of n, if exactly S remains -/
def T.dv (t : T) (S : Str → Bool) (n : Str) : Int := (((t.div S).find? fun x => decide (x.1 = n)).map (·.2)).getD 0
theorem dv_mem {t : T} {S : Str → Bool} {n : Str} (h1 : n ∈ t.names) (h2 : S n = true) : (n, t.dv S n) ∈ t.div S := by
  obtain ⟨d, hd⟩ := T.div_has h1 h2
  unfold T.dv
  cases hf : (t.div S).find? fun x => decide (x.1 = n) with
  | none => exact absurd (decide_eq_true rfl) (List.find?_eq_none.mp hf _ hd)
  | some y =>
    have hy : y.1 = n := of_decide_eq_true (List.find?_some (p := fun x : Str × Int => decide (x.1 = n)) hf)
    have := List.mem_of_find?_eq_some hf
    rw [← hy]
    exact this
theorem dv_pos {t : T} {S : Str → Bool} {n : Str} (h1 : n ∈ t.names) (h2 : S n = true) : 1 ≤ t.dv S n := T.div_pos S t _ (dv_mem h1 h2)
theorem whole_dv {t : T} {pw : Str → Int} {L : Int} {S : Str → Bool} {n : Str} (nd : t.names.Nodup) (h1 : n ∈ t.names) (h2 : S n = true) : whole t pw L S n = true ↔ L ≤ pw n * t.dv S n := by
  rw [whole_iff]
  constructor
  · rintro ⟨d, hd, h⟩
    rw [div_uniq nd (dv_mem h1 h2) hd]
    exact h
  · intro h
    exact ⟨_, dv_mem h1 h2, h⟩
theorem holds_dv {t : T} {pw : Str → Int} {L : Int} {S : Str → Bool} (nd : t.names.Nodup) : Holds t pw L S ↔ ∀ n ∈ t.names, S n = true → L ≤ pw n * t.dv S n :=
  ⟨fun h n hn hs => (whole_dv nd hn hs).mp (h n hn hs), fun h n hn hs => (whole_dv nd hn hs).mpr (h n hn hs)⟩
/-- the largest load that can be lifted once -/
structure IsCap (t : T) (c : Int) : Prop where
  pos : 1 ≤ c
  can : ∃ S : Str → Bool, Sub S t.all ∧ Some1 S ∧ Holds t (t.pw (0 : Nat)) c S
  most : ∀ (S : Str → Bool) (L : Int), Sub S t.all → Some1 S → Holds t (t.pw (0 : Nat)) L S → L ≤ c
end Wr

set_option Elab.async false
set_option linter.all false
set_option maxRecDepth 100000
set_option maxHeartbeats 2000000
namespace Wr
open PySem PySem.Spec PyProof.Rows L2
/-! ### the trees from which a tree is left if a strand is taken out: pure -/
mutual
def T.withs : T → T → List T
  | .leaf n p w, l => [.node [.leaf n p w, l]]
  | .node ts, l => .node [.node ts, l] :: .node (ts ++ [l]) :: T.withsL [] ts l
def T.withsL : List T → List T → T → List T
  | _, [], _ => []
  | pre, c :: r, l => (T.withs c l).map (fun g => .node (pre ++ g :: r)) ++ T.withsL (pre ++ [c]) r l
end
/-- all trees of these strands -/
def allT : List T → List T
  | [] => []
  | l :: r => r.foldl (fun ts s => ts.flatMap fun t => t.withs s) [l]
theorem dataL_app (xs ys : List T) : T.dataL (xs ++ ys) = T.dataL xs ++ T.dataL ys := by rw [T.dataL_map, T.dataL_map, T.dataL_map, List.map_append]
mutual
theorem T.withs_lp (s : T) : ∀ t : T, ∀ g ∈ t.withs s, g.leaves.Perm (t.leaves ++ s.leaves)
  | .leaf n p w, g, h => by
    rw [T.withs, List.mem_singleton] at h
    rw [h]
    show (T.leavesL [.leaf n p w, s]).Perm _
    rw [T.leavesL, T.leavesL, T.leavesL, List.append_nil]
  | .node ts, g, h => by
    rw [T.withs] at h
    rcases List.mem_cons.mp h with h | h
    · rw [h]
      show (T.leavesL [.node ts, s]).Perm _
      rw [T.leavesL, T.leavesL, T.leavesL, List.append_nil]
    rcases List.mem_cons.mp h with h | h
    · rw [h]
      show (T.leavesL (ts ++ [s])).Perm _
      rw [T.leavesL_append, T.leavesL, T.leavesL, List.append_nil]
      exact List.Perm.refl _
    · have := T.withsL_lp s [] ts g h
      exact this
theorem T.withsL_lp (s : T) (pre : List T) : ∀ ts : List T, ∀ g ∈ T.withsL pre ts s, g.leaves.Perm (T.leavesL pre ++ T.leavesL ts ++ s.leaves)
  | [], g, h => by
    rw [T.withsL] at h
    cases h
  | c :: r, g, h => by
    rw [T.withsL] at h
    rcases List.mem_append.mp h with h | h
    · obtain ⟨g2, hg, rfl⟩ := List.mem_map.mp h
      have p := T.withs_lp s c g2 hg
      show (T.leavesL (pre ++ g2 :: r)).Perm _
      rw [T.leavesL_append, T.leavesL, T.leavesL, List.append_assoc, List.append_assoc]
      refine List.Perm.append_left _ ?_
      refine (p.append_right _).trans ?_
      rw [List.append_assoc]
      exact List.Perm.append_left _ List.perm_append_comm
    · have := T.withsL_lp s (pre ++ [c]) r g h
      rw [T.leavesL_append, T.leavesL, T.leavesL, List.append_nil, List.append_assoc (T.leavesL pre)] at this
      rw [T.leavesL]
      exact this
end
mutual
theorem T.withs_ok {s : T} (hs : s.Ok) : ∀ t : T, t.Ok → ∀ g ∈ t.withs s, g.Ok
  | .leaf n p w, h, g, hg => by
    rw [T.withs, List.mem_singleton] at hg
    rw [hg]
    unfold T.Ok
    exact ⟨Nat.le_refl 2, T.okL_all.mpr fun x hx => by
      rcases List.mem_cons.mp hx with z | z
      · rw [z]; exact h
      · rw [List.mem_singleton.mp z]; exact hs⟩
  | .node ts, h, g, hg => by
    rw [T.withs] at hg
    have h0 := h
    unfold T.Ok at h
    rcases List.mem_cons.mp hg with z | hg
    · rw [z]
      unfold T.Ok
      exact ⟨Nat.le_refl 2, T.okL_all.mpr fun x hx => by
        rcases List.mem_cons.mp hx with z | z
        · rw [z]; exact h0
        · rw [List.mem_singleton.mp z]; exact hs⟩
    rcases List.mem_cons.mp hg with z | hg
    · rw [z]
      unfold T.Ok
      refine ⟨by rw [List.length_append]; have := h.1; omega, T.okL_all.mpr fun x hx => ?_⟩
      rcases List.mem_append.mp hx with z | z
      · exact T.okL_all.mp h.2 x z
      · rw [List.mem_singleton.mp z]; exact hs
    · exact T.withsL_ok hs [] ts (by simpa using h.1) (by intro x hx; cases hx) (T.okL_all.mp h.2) g hg
theorem T.withsL_ok {s : T} (hs : s.Ok) (pre : List T) : ∀ ts : List T, 2 ≤ pre.length + ts.length → (∀ x ∈ pre, x.Ok) → (∀ x ∈ ts, x.Ok) → ∀ g ∈ T.withsL pre ts s, g.Ok
  | [], _, _, _, g, hg => by
    rw [T.withsL] at hg
    cases hg
  | c :: r, h2, hp, ht, g, hg => by
    rw [T.withsL] at hg
    rw [List.length_cons] at h2
    rcases List.mem_append.mp hg with hg | hg
    · obtain ⟨g2, h3, rfl⟩ := List.mem_map.mp hg
      have := T.withs_ok hs c (ht c List.mem_cons_self) g2 h3
      unfold T.Ok
      refine ⟨by rw [List.length_append, List.length_cons]; omega, T.okL_all.mpr fun x hx => ?_⟩
      rcases List.mem_append.mp hx with z | z
      · exact hp x z
      · rcases List.mem_cons.mp z with z | z
        · rw [z]; exact this
        · exact ht x (List.mem_cons_of_mem _ z)
    · refine T.withsL_ok hs (pre ++ [c]) r (by rw [List.length_append]; show 2 ≤ pre.length + 1 + r.length; omega) (fun x hx => ?_) (fun x hx => ht x (List.mem_cons_of_mem _ hx)) g hg
      rcases List.mem_append.mp hx with z | z
      · exact hp x z
      · rw [List.mem_singleton.mp z]; exact ht c List.mem_cons_self
end
end Wr

set_option Elab.async false
set_option linter.all false
set_option maxRecDepth 100000
set_option maxHeartbeats 2000000
namespace D3
open PySem PySem.Spec PyProof.Rows L2
/-! ### d.items(), d.values() -/
def Ity (P : Program) (w : World) (d : Addr) (o : Obj) (xs : List Ent) : It :=
  ⟨fun i H => H d = some (.frz o (DKO P w d xs)) ∧ i < xs.length, fun i H x H' => ∃ (T : Addr) (e : Ent), xs[i]? = some e ∧ x = .ref T ∧ H T = none ∧ H' = upd H T (.tup [.ref e.2.1, e.2.2]), fun i H => H d = some (.frz o (DKO P w d xs)) ∧ xs.length ≤ i⟩
def Itz (P : Program) (w : World) (d : Addr) (o : Obj) (xs : List Ent) : It :=
  ⟨fun i H => H d = some (.frz o (DKO P w d xs)) ∧ i < xs.length, fun i H x H' => H' = H ∧ ∃ e : Ent, xs[i]? = some e ∧ x = e.2.2, fun i H => H d = some (.frz o (DKO P w d xs)) ∧ xs.length ≤ i⟩
section
variable {P : Program} {w : World} {K : PySem.W.Frag} {tg : Expr} {d : Addr} {o : Obj} {es : Array DictEntry} {ep : Nat} {xs : List Ent}
theorem turn_itemsX {elts : List Expr} {kk : Nat} {tpos : Pos} (it : Addr) (hod : o.data = .dict es ep) : Turn P w K (.Tuple elts kk tpos) (Ity P w d o xs) [it] it (fun i h => ∃ k1 v1, IsItemIter h it d i xs.length ep k1 v1) where
  mem := by simp
  obj := fun i h st b hb => by
    obtain rfl : b = it := by simpa using hb
    obtain ⟨k1, v1, e1⟩ := st
    exact ⟨_, e1, fun v z => nomatch z⟩
  keep := fun i h h1 st k => let ⟨k1, v1, e1⟩ := st; ⟨k1, v1, k it (by simp) _ e1⟩
  item := by
    intro X e1 e2 e3 hc i pins s σ H E I hf st hg; subst e1 e2 e3
    obtain ⟨hd, hi⟩ := hg
    obtain ⟨hs, hgd, hx, es1, ep1, hdt, hsz, ent⟩ := frzX I hd
    obtain ⟨rfl, rfl⟩ := dict_ep hod hdt
    obtain ⟨p, hp⟩ : ∃ p, xs[i]? = some p := ⟨xs[i], List.getElem?_eq_getElem hi⟩
    obtain ⟨en, hen, hkey, hval⟩ := ent i p hp
    obtain ⟨k1, v1, he⟩ := st
    rw [← hsz] at he
    have ilt : i < es1.size := by omega
    rw [Array.getElem?_eq_getElem ilt] at hen
    cases hen
    have hlt : it < s.heap.objs.size := Heap.lt_size he
    refine wpAny_pyNext_items_item_raw he ⟨o, hgd, hx, hdt⟩ ilt fun h1 ho hT hz hk => ?_
    refine ⟨_, rfl, wpAny_letOwnedTupleGo_items (s := { s with heap := h1 }) ho fun h2 he2 sb => ?_⟩
    have hT2 : h2.get? s.heap.objs.size = some { cls := .type "tuple", data := .seq #[es1[i].key, es1[i].val] } := (sb.2 _ (Nat.ne_of_gt hlt)).trans hT
    have new : ObjOk X.prog X.w (upd H s.heap.objs.size (.tup [.ref p.2.1, p.2.2])) h2 s.heap.objs.size (.tup [.ref p.2.1, p.2.2]) := ⟨by show 2 ≤ sizeLine; decide, [es1[i].key, es1[i].val], .cons hkey (.cons hval .nil), ⟨_, hT2, rfl, _, rfl⟩⟩
    have I1 : Inv X pins σ (upd H s.heap.objs.size (.tup [.ref p.2.1, p.2.2])) { s with heap := h2 } := I.turnedNew (t' := s.toks) (ch := [it]) (fun b ob hb z => (sb.2 b (by simpa using hb)).trans (hk b ob (by simpa using hb) z)) hf (Nat.le_refl _) new
    refine ⟨.ref s.heap.objs.size, _, I1, rfl, ⟨_, p, hp, rfl, I.hok.fresh (Nat.le_refl _), rfl⟩, ⟨es1[i].key, es1[i].val, ?_⟩, fun b hb => ?_⟩
    · rw [← hsz]; exact he2
    · obtain rfl : b = it := by simpa using hb
      rw [upd_ne (Nat.ne_of_lt hlt)]
      exact (hf b (by simp)).1
  done := by
    intro X e1 e2 e3 hc i pins s σ H E I hf st hg; subst e1 e2 e3
    obtain ⟨hd, hi⟩ := hg
    obtain ⟨a0, a1, a2, a3, a4, a5⟩ := hf it (by simp)
    obtain ⟨hs, hgd, hx, es1, ep1, hdt, hsz, ent⟩ := frzX I hd
    obtain ⟨rfl, rfl⟩ := dict_ep hod hdt
    obtain ⟨k1, v1, he⟩ := st
    rw [← hsz] at he
    exact wpAny_pyNext_items_end_raw (I.ok.hd hc) he ⟨o, hgd, hx, hdt⟩ (by omega) fun h1 eb => ⟨rfl, I.turned (t' := s.toks) (fun b ob hb z => eb b ob hb z) a0 a1 a3 a4 a5⟩
  self := fun A i s Q E st h => let ⟨_, _, e1⟩ := st; PySem.W.kcp_self e1 h
theorem turn_valsX (it : Addr) (hod : o.data = .dict es ep) : Turn P w K tg (Itz P w d o xs) [it] it (fun i h => h.IsValIter it d i xs.length ep) where
  mem := by simp
  obj := fun i h st b hb => by
    obtain rfl : b = it := by simpa using hb
    obtain ⟨oi, e1, c1, d1⟩ := st
    exact ⟨oi, e1, fun v z => by rw [d1] at z; cases z⟩
  keep := fun i h h1 st k => st.at fun oi e1 => k it (by simp) oi e1
  item := by
    intro X e1 e2 e3 hc i pins s σ H E I hf st hg; subst e1 e2 e3
    obtain ⟨hd, hi⟩ := hg
    obtain ⟨a0, a1, a2, a3, a4, a5⟩ := hf it (by simp)
    obtain ⟨hs, hgd, hx, es1, ep1, hdt, hsz, ent⟩ := frzX I hd
    obtain ⟨rfl, rfl⟩ := dict_ep hod hdt
    obtain ⟨p, hp⟩ : ∃ p, xs[i]? = some p := ⟨xs[i], List.getElem?_eq_getElem hi⟩
    obtain ⟨en, hen, hkey, hval⟩ := ent i p hp
    have ilt : i < es1.size := by omega
    rw [Array.getElem?_eq_getElem ilt] at hen
    cases hen
    rw [← hsz] at st
    refine wpAny_pyNext_values_item_raw st ⟨o, hgd, hx, hdt⟩ ilt fun h1 st1 sb => ?_
    have I1 : Inv X pins σ H { s with heap := h1 } := I.turned (t' := s.toks) (fun b ob hb z => (sb.2 b hb).trans z) a0 a1 a3 a4 a5
    obtain ⟨oi, b1, b2, b3⟩ := id st1
    refine ⟨es1[i].val, rfl, go_of (s := { s with heap := h1 }) b1 b2 b3 (by decide) ⟨p.2.2, H, I1, hval, ⟨rfl, p, hp, rfl⟩, ?_, fun b hb => (hf b hb).1⟩⟩
    show h1.IsValIter it d (i + 1) xs.length _
    rw [← hsz]
    exact st1
  done := by
    intro X e1 e2 e3 hc i pins s σ H E I hf st hg; subst e1 e2 e3
    obtain ⟨hd, hi⟩ := hg
    obtain ⟨a0, a1, a2, a3, a4, a5⟩ := hf it (by simp)
    obtain ⟨hs, hgd, hx, es1, ep1, hdt, hsz, ent⟩ := frzX I hd
    obtain ⟨rfl, rfl⟩ := dict_ep hod hdt
    rw [← hsz] at st
    exact wpAny_pyNext_values_end_raw (I.ok.hd hc) st ⟨o, hgd, hx, hdt⟩ (by omega) fun h1 eb => ⟨rfl, I.turned (t' := s.toks) (fun b ob hb z => eb b ob hb z) a0 a1 a3 a4 a5⟩
  self := fun A i s Q E st h => wpAny_pyIter_valiter st h
def iItemsX (P : Program) (w : World) (td : TE) : TI := fun σ H R => td σ H fun x H1 => ∃ d o xs, x = .ref d ∧ H1 d = some (.frz o (DKO P w d xs)) ∧ R (Ity P w d o xs) H1
def iValsX (P : Program) (w : World) (td : TE) : TI := fun σ H R => td σ H fun x H1 => ∃ d o xs, x = .ref d ∧ H1 d = some (.frz o (DKO P w d xs)) ∧ R (Itz P w d o xs) H1
theorem pi_itemsY {X : Cx} {e : Expr} {td : TE} {elts : List Expr} {kk : Nat} {tpos apos cpos : Pos} (hP : X.prog = P) (hw : X.w = w) (he : PE X e td) (hbase : attributeBase e "items" X.env (eval e X.env) = eval e X.env := by rfl) (hline : (apos.endLine == cpos.line) = true := by rfl) :
    PI X (.Tuple elts kk tpos) (.Call (.Attribute e "items" apos) [] [] cpos) (iItemsX P w td) := by
  subst hP hw
  refine ⟨fun pins s σ H R I h => ?_⟩
  refine wpAny_Call_method (T := "dict") (id := "dict.items") hbase rfl hline F.plainAttrs_dict F.slot_dict_items F.type_dict_items (thn (he.run pins s σ H _ I h) fun u s1 ⟨x, H1, I1, rx, d, o, xs, ex, hd, q⟩ => ?_)
  subst ex
  obtain rfl : u = Value.ref d := rx
  obtain ⟨hs, hgd, hx, es, ep, hdt, hsz, ent⟩ := frzX I1 hd
  have raw : s1.heap.DictRaw d es ep := ⟨o, hgd, hx, hdt⟩
  refine ⟨raw.typeIs, fun a e2 => by cases e2; exact ⟨o, hgd, hx.2.1⟩, ?_⟩
  have I2 : Inv X pins σ H1 { s1 with heap := s1.heap.push { cls := .type "dict_items", data := .fields #[.ref d] } } := I1.kept (t' := s1.toks) fun b ob z => Heap.get?_push_of_some _ z
  have fin : wpAny (model X.prog X.w) X.A (pyIter (.ref s1.heap.objs.size)) (PIE X pins σ (.Tuple elts kk tpos) R) X.xe { s1 with heap := s1.heap.push { cls := .type "dict_items", data := .fields #[.ref d] } } := by
    refine wpAny_pyIter_items_raw (d := d) ⟨_, Heap.get?_push_size _ rfl, rfl, rfl⟩ (raw.at fun o z => Heap.get?_push_of_some _ z) (pi_one (tk := s1.toks) I2 _ (turn_itemsX _ hdt) ⟨.none, .none, ?_⟩ q)
    rw [← hsz]
    exact Heap.get?_push_size _ rfl
  show wpAny _ _ (callWith cpos (.builtin "dict.items") [.ref d] [] []) _ X.xe s1
  exact method_meetsIn F.slot_dict_items F.entry_dict_items rfl (PySem.evalArgs_none ⟨rfl, raw.typeIs, F.args_dict_items_1 _, _, meets_dict_items_raw d hs, ⟨es, ep, raw⟩, fin⟩)
theorem pi_valsY {X : Cx} {e : Expr} {td : TE} {apos cpos : Pos} (hP : X.prog = P) (hw : X.w = w) (he : PE X e td) (hbase : attributeBase e "values" X.env (eval e X.env) = eval e X.env := by rfl) (hline : (apos.endLine == cpos.line) = true := by rfl) :
    PI X tg (.Call (.Attribute e "values" apos) [] [] cpos) (iValsX P w td) := by
  subst hP hw
  refine ⟨fun pins s σ H R I h => ?_⟩
  refine wpAny_Call_method (T := "dict") (id := "dict.values") hbase rfl hline F.plainAttrs_dict F.slot_dict_values F.type_dict_values (thn (he.run pins s σ H _ I h) fun u s1 ⟨x, H1, I1, rx, d, o, xs, ex, hd, q⟩ => ?_)
  subst ex
  obtain rfl : u = Value.ref d := rx
  obtain ⟨hs, hgd, hx, es, ep, hdt, hsz, ent⟩ := frzX I1 hd
  have raw : s1.heap.DictRaw d es ep := ⟨o, hgd, hx, hdt⟩
  refine ⟨raw.typeIs, fun a e2 => by cases e2; exact ⟨o, hgd, hx.2.1⟩, ?_⟩
  have I2 : Inv X pins σ H1 { s1 with heap := s1.heap.push { cls := .type "dict_values", data := .fields #[.ref d] } } := I1.kept (t' := s1.toks) fun b ob z => Heap.get?_push_of_some _ z
  have fin : wpAny (model X.prog X.w) X.A (pyIter (.ref s1.heap.objs.size)) (PIE X pins σ tg R) X.xe { s1 with heap := s1.heap.push { cls := .type "dict_values", data := .fields #[.ref d] } } := by
    refine wpAny_pyIter_values_raw (d := d) ⟨_, Heap.get?_push_size _ rfl, rfl, rfl⟩ (raw.at fun o z => Heap.get?_push_of_some _ z) (pi_one (tk := s1.toks) I2 _ (turn_valsX _ hdt) ⟨_, Heap.get?_push_size _ rfl, rfl, ?_⟩ q)
    rw [← hsz] <;> rfl
  show wpAny _ _ (callWith cpos (.builtin "dict.values") [.ref d] [] []) _ X.xe s1
  exact method_meetsIn F.slot_dict_values F.entry_dict_values rfl (PySem.evalArgs_none ⟨rfl, raw.typeIs, F.args_dict_values_1 _, _, meets_dict_values_raw d hs, ⟨es, ep, raw⟩, fin⟩)
theorem walk_itemsX : Walk (Ity P w d o xs) xs.length (fun H => H d = some (.frz o (DKO P w d xs))) (fun i H x H' => ∃ (T : Addr) (e : Ent), xs[i]? = some e ∧ x = .ref T ∧ H T = none ∧ H' = upd H T (.tup [.ref e.2.1, e.2.2])) :=
  ⟨fun _ _ hi q => ⟨q, hi⟩, fun _ q => ⟨q, Nat.le_refl _⟩, fun _ _ _ _ _ _ y => y⟩
theorem walk_valsX : Walk (Itz P w d o xs) xs.length (fun H => H d = some (.frz o (DKO P w d xs))) (fun i H x H' => H' = H ∧ ∃ e : Ent, xs[i]? = some e ∧ x = e.2.2) :=
  ⟨fun _ _ hi q => ⟨q, hi⟩, fun _ q => ⟨q, Nat.le_refl _⟩, fun _ _ _ _ _ _ y => y⟩
end
/-! ### d.get(k, x) -/
def getX (xs : List Ent) (k : PyData) : Option V := (xs.find? fun x => decide (nk x.1 = nk k)).map (·.2.2)
theorem getX_rel {xs : List Ent} {ys : List (NestedKey × Addr × Value)} {k : PyData} {x : V} {u : Value} (pr : Paired EntR xs ys) (r : RelV x u) : RelV ((getX xs k).getD x) ((valueAt (pairsH ys) (nk k)).getD u) := by
  rw [valueAt_pairsH]
  unfold getX atKey
  induction pr with
  | nil => exact r
  | @cons a b as bs h t ih =>
    rw [List.find?_cons, List.find?_cons]
    by_cases c : nk a.1 = nk k
    · rw [decide_eq_true c, ← h.1, decide_eq_true c]
      exact h.2.2
    · rw [decide_eq_false c, ← h.1, decide_eq_false c]
      exact ih
section
variable {X : Cx} {P : Program} {w : World}
def tGetX (P : Program) (w : World) (K : PySem.W.Frag) (td ty tx : TE) : TE := fun σ H Q => td σ H fun x H1 => ∃ (d : Addr) (xs0 : List Ent), x = .ref d ∧ H1 d = some (DKO P w d xs0) ∧ ty σ H1 fun y H2 => tx σ H2 fun z H3 => ∃ (b : Addr) (xs : List Ent) (k : PyData), y = .ref b ∧ H3 d = some (DKO P w d xs) ∧ KeysOk K H3 xs ∧ KeyOk K H3 k b ∧ Q ((getX xs k).getD z) H3
theorem pe_getY {o e f : Expr} {td ty tx : TE} {apos cpos : Pos} (hP : X.prog = P) (hw : X.w = w) (hu : X.A.units + 64 < cLine) (ho : PE X o td) (he : PE X e ty) (hf : PE X f tx) (m : M2 X o "get" apos e f cpos) : PE X (.Call (.Attribute o "get" apos) [e, f] [] cpos) (tGetX P w X.K td ty tx) := by
  subst hP hw
  refine ⟨fun pins s σ H Q I h => ?_⟩
  refine wpAny_Call_method m.base m.few m.line PySem.F.plainAttrs_dict PySem.F.slot_dict_get PySem.F.type_dict_get (thn (ho.run pins s σ H _ I h) fun u s1 ⟨x, H1, I1, rx, d, xs0, ex, hd0, q1⟩ => ?_)
  subst ex
  obtain rfl : u = Value.ref d := rx
  obtain ⟨_, _, _, _, ob, _, _, g1, g2, _⟩ := dko_get I1 hd0
  refine ⟨⟨ob, g1, g2.1⟩, fun a e2 => by cases e2; exact ⟨ob, g1, g2.2.1⟩, ?_⟩
  rw [m.trees]
  refine Calls.callWith_builtin rfl (Calls.evalArgs_plain (Calls.spliced_cons (thn (he.run pins s1 σ H1 _ I1 q1) fun iv s2 ⟨y, H2, I2, ry, q2⟩ => Calls.spliced_cons (thn (hf.run pins s2 σ H2 _ I2 q2) fun fv s3 ⟨z, H3, I3, rz, b, xs, k, ey, hd, hk, hb, q3⟩ => Calls.spliced_nil ?_))))
  subst ey
  obtain rfl : iv = Value.ref b := ry
  have R := dko_get I3 hd
  obtain ⟨ys, pr, hm⟩ := dko_of I3 R hk
  exact getOr_keyed (knd := nestedKind X.prog X.w) (show X.A.units + 1 + 8 < cLine by omega) (key_is I3 hb) R.1 ⟨ys, hm, rfl⟩ ⟨_, H3, I3.tok _, getX_rel pr rz, q3⟩
/-! ### sorted(set(t)), t a tuple of ints -/
def tSrtSetI (K : PySem.W.Frag) (ta : TE) : TE := fun σ H Q => ta σ H fun x H1 => ∃ (l : Addr) (xs : List Int), x = .ref l ∧ SqT K H1 l (xs.map V.int) ∧ xs.length < 64 ∧ ∀ (ys : List Int) (p : Addr), ys.Pairwise (· < ·) → (∀ k, k ∈ ys ↔ k ∈ xs) → H1 p = none → Q (.ref p) (upd H1 p (.lst (ys.map V.int)))
theorem pe_srtSetI {a : Expr} {ta : TE} {p1 p2 p3 p4 : Pos} (hc : X.calm = true) (hg : Gl X "sorted") (hm : X.mg "sorted" = none) (hg2 : Gl X "set") (hm2 : X.mg "set" = none) (ha : PE X a ta)
    (na : starEach [a] X.env = (false, eval a X.env) :: starEach [] X.env := by rfl) : PE X (.Call (.Name "sorted" p1) [.Call (.Name "set" p2) [a] [] p3] [] p4) (tSrtSetI X.K ta) := by
  refine ⟨fun pins s σ H Q I h => ?_⟩
  refine Call_ (ld_blt I hg hm (u := .builtin "sorted") rfl (PyProof.Rows.callWith_builtin1 (PyProof.Rows.args_cons ?_ rfl) rfl rfl))
  refine Call_ (ld_blt I hg2 hm2 boot_set (PyProof.Rows.callWith_type1 (PyProof.Rows.args_cons (thn (ha.run pins s σ H _ I h) fun v s1 ⟨x, H1, I1, r1, q1⟩ => PyProof.Rows.args_nil ?_) na) na rfl))
  obtain ⟨l, xs, rfl, hq, hlen, q1⟩ := q1
  cases r1
  obtain ⟨its, r, pl, _⟩ := I1.tuple hq
  refine call_set_tupI (w := X.w) xs (I1.ok.hd hc) (Wr.isTuple_of pl) (by simpa using ints_of_vals r) (by unfold scanBound; omega) fun h2 tk c hS hcl hk => ?_
  refine PyProof.Rows.args_nil ?_
  have I2 : Inv X pins σ H1 { s1 with heap := h2, toks := tk } := I1.kept fun b o e => hk b o e
  refine sorted_set (s := { s1 with heap := h2, toks := tk }) hS (I1.ok.hd hc) (by omega) fun s3 p out c3 ns k3 g3 o3 hp hg3 hi hs3 hm3 hl3 => ?_
  have z1 : (ns.map V.int).length ≤ sizeLine := by rw [List.length_map, hl3, sizeLine_eq]; omega
  have hn : H1 p = none := I2.hok.fresh hp
  have J : Inv X pins σ (upd H1 p (.lst (ns.map V.int))) { s1 with heap := s3.heap, gens := s3.gens, drawn := s3.drawn, toks := s3.toks } :=
    Inv.call (s := { s1 with heap := h2, toks := tk }) I2 (ch := []) (Un.laid k3 hp hn) (I2.hok.laid k3 hp ⟨z1, out.toList, c3, vals_of_ints hi, hg3⟩) (by rw [g3]; exact I2.bare) (fun _ z => nomatch z)
  have e5 : s3 = { s1 with heap := s3.heap, gens := s3.gens, drawn := s3.drawn, toks := s3.toks } := by
    cases s3; cases s1; cases o3; rfl
  rw [e5]
  exact ⟨.ref p, _, J, rfl, q1 ns p hs3 (fun k => by rw [hm3 k, decide_eq_true_iff]) hn⟩
end
end D3

set_option Elab.async false
set_option linter.all false
set_option maxRecDepth 100000
set_option maxHeartbeats 2000000
namespace D3
open PySem PySem.Spec PyProof.Rows L2 PySem.W PySem.SeqAt
section
variable {prog : Program} {w : World} {A : Around} {E : Value → Shared → Prop} {s : Shared}
/-- min(a, b) of two alike data -/
theorem min_two_data {a b : Value} {da db : PyData} {as bs : List Addr} {Q : Value → Shared → Prop} (hh : A.handled = none) (ra : Reads s.heap a da as) (rb : Reads s.heap b db bs) (ha : AlikeAll [da, db]) (hu : A.units + 1 + PyData.depthAll [da, db] < cLine)
    (h : ∀ h1 tk, (∀ c o, s.heap.get? c = some o → h1.get? c = some o) → Q (if dataLt db da = true then b else a) { s with heap := h1, toks := tk }) : wpAny (model prog w) A (call (.builtin "min") [a, b]) Q E s := by
  have hname : (toString "min" ++ toString ".loop" : String) = "min.loop" := by decide
  refine call_function_tree PySem.F.kind_min PySem.F.plain_min PySem.F.entry_min (PySem.F.args_min2 _ _) ?_
  show wpAny _ A.in1 (Builtin.Builtins.bindParams "min" ["key", "default"] 0 ⟨[], []⟩ >>= _) _ _ s
  refine wpAny_bind (wpAny_of_eq (show Builtin.Builtins.bindParams "min" ["key", "default"] 0 ⟨[], []⟩ = pure [none, none] from rfl) ?_)
  show wpAny _ A.in1 (newTuple [a, b] >>= _) _ _ s
  refine wpAny_bind (wpAny_newObj_type ?_)
  have kp : ∀ c o, s.heap.get? c = some o → (s.heap.push { cls := .type "tuple", data := .seq #[a, b] }).get? c = some o := fun c o e => Heap.get?_push_of_some _ e
  have hT : (s.heap.push { cls := .type "tuple", data := .seq #[a, b] }).IsTuple s.heap.objs.size #[a, b] := ⟨_, Heap.get?_push_size _ rfl, rfl, 0, rfl⟩
  have hr : ReadsAll (s.heap.push { cls := .type "tuple", data := .seq #[a, b] }) (#[a, b] : Array Value).toList [da, db] (as ++ (bs ++ [])) := .cons (reads_keeps kp ra) (.cons (reads_keeps kp rb) .nil)
  refine wpAny_bind (iter_tupleW (s := { s with heap := s.heap.push { cls := .type "tuple", data := .seq #[a, b] } }) (A := A.in1) hh hT fun s₂ e W st hfp hw hk => ?_)
  refine wpAny_bind (wpAny_newObj_type ?_)
  have hSf : s₂.heap.objs.size ∉ [(s.heap.push { cls := .type "tuple", data := .seq #[a, b] }).objs.size, s.heap.objs.size] := fun hm => Nat.lt_irrefl _ (hfp _ hm)
  rw [hname]
  have cmp := cmpIn_lt (prog := prog) (w := w) (A := A.in1.in1) (s := { s with heap := s.heap.push { cls := .type "tuple", data := .seq #[a, b] } }) hr ha
  refine wpAny_pure ⟨plainId_quiet PySem.F.plain_min_loop _, codeAny_min_loop_firstH W (s.heap.push { cls := .type "tuple", data := .seq #[a, b] }) hw _ (cmpIn_lt (A := A.in1) (s := { s with heap := s.heap.push { cls := .type "tuple", data := .seq #[a, b] } }) hr ha hu) s₂.heap.objs.size hSf (fresh_in hk) _ (show 0 < 2 by decide) (fun c o z => Heap.get?_push_of_some _ (hk c o z)) (W.frame 0 s₂ _ s₂.toks st (Nat.le_refl _) fun c _ o z => Heap.get?_push_of_some _ z) (Heap.get?_push_size _ rfl) fun v s3 hP hm => ?_⟩
  have hm2 := Moved.drop_new (tk := s₂.toks) hm (Nat.le_refl _)
  obtain ⟨h1, tk, rfl, hk1⟩ := moved_old (s := { s with heap := s.heap.push { cls := .type "tuple", data := .seq #[a, b] } }) e rfl hm2
  have hv : v = if dataLt db da = true then b else a := by
    have hP : (#[a, b] : Array Value)[argBest (fun i j => dataLt ([da, db].getD i .none) ([da, db].getD j .none)) 1]? = some v := hP
    by_cases c : dataLt db da = true
    · rw [if_pos c]
      have e9 : argBest (fun i j => dataLt ([da, db].getD i .none) ([da, db].getD j .none)) 1 = 1 := by
        show (if dataLt db da = true then 1 else 0) = 1
        rw [if_pos c]
      rw [e9] at hP
      exact (Option.some.inj hP).symm
    · rw [if_neg c]
      have e9 : argBest (fun i j => dataLt ([da, db].getD i .none) ([da, db].getD j .none)) 1 = 0 := by
        show (if dataLt db da = true then 1 else 0) = 0
        rw [if_neg c]
      rw [e9] at hP
      exact (Option.some.inj hP).symm
  rw [hv]
  exact h h1 tk fun c o z => hk1 c o (kp c o z)
end
section
variable {X : Cx}
def rMin2D (K : PySem.W.Frag) : List V → Hp → VK → Prop := fun vs H Q => ∃ (x y : V) (da db : PyData), vs = [x, y] ∧ Dp K H x da ∧ Dp K H y db ∧ AlikeAll [da, db] ∧ PyData.depthAll [da, db] ≤ 60 ∧ Q (if dataLt db da = true then y else x) H
theorem call_min2D (hc : X.calm = true) (hu : X.A.units + 64 < cLine) : CallR X (.builtin "min") (rMin2D X.K) := by
  intro pins s σ H vs us Q I r h
  obtain ⟨x, y, da, db, rfl, hx, hy, hal, hdp, q⟩ := h
  obtain ⟨u1, u2, rfl, r1, r2⟩ := vals2 r
  obtain ⟨as, q1⟩ := Dp.reads I da x u1 hx r1
  obtain ⟨bs, q2⟩ := Dp.reads I db y u2 hy r2
  refine min_two_data (I.ok.hd hc) q1 q2 hal (by omega) fun h1 tk k => ⟨_, H, I.kept k, ?_, q⟩
  by_cases c : dataLt db da = true
  · rw [if_pos c, if_pos c]; exact r2
  · rw [if_neg c, if_neg c]; exact r1
theorem dpAll_at {K : PySem.W.Frag} {H : Hp} : ∀ {vs : List V} {ds : List PyData} {i : Nat} {v : V}, DpAll K H vs ds → vs[i]? = some v → ∃ d, ds[i]? = some d ∧ Dp K H v d
  | _, _, i, v, .nil, h => by simp at h
  | _, _, 0, v, .cons a r, h => ⟨_, rfl, by cases h; exact a⟩
  | _, _, i + 1, v, .cons a r, h => dpAll_at (i := i) r (by simpa using h)
theorem minD_mem (y : PyData) : ∀ ys : List PyData, minD y ys ∈ y :: ys := by
  have gen : ∀ (ys : List PyData) (a : PyData), ys.foldl (fun a y => if dataLt y a then y else a) a ∈ a :: ys := fun ys => by
    induction ys with
    | nil => exact fun a => List.mem_cons_self
    | cons z r ih =>
      intro a
      have := ih (if dataLt z a then z else a)
      rw [List.foldl_cons]
      rcases List.mem_cons.mp this with h | h
      · rw [h]
        split
        · exact List.mem_cons_of_mem _ List.mem_cons_self
        · exact List.mem_cons_self
      · exact List.mem_cons_of_mem _ (List.mem_cons_of_mem _ h)
  exact fun ys => gen ys y
/-- min(list, default=d) -/
def rMinDf (K : PySem.W.Frag) : List V → List V → Hp → VK → Prop := fun vs zs H Q => ∃ (z : V) (l : Addr) (xs : List V) (ds : List PyData), zs = [z] ∧ vs = [.ref l] ∧ SqL K H l xs ∧ DpAll K H xs ds ∧ AlikeAll ds ∧ PyData.depthAll ds ≤ 60 ∧ (ds = [] → Q z H) ∧ ∀ (y : PyData) (ys : List PyData) (v : V), ds = y :: ys → v ∈ xs → Dp K H v (minD y ys) → Q v H
theorem cr_minDf (hc : X.calm = true) (hu : X.A.units + 64 < cLine) : CallRK X (.builtin "min") [Str.ofString "default"] (rMinDf X.K) := by
  intro pins s σ H vs zs us ws Q I r rz h
  obtain ⟨z, l, xs, ds, rfl, rfl, hl, hd, hal, hdp, q0, q⟩ := h
  obtain rfl := Vals.ref1 r
  obtain ⟨w1, rfl, e1⟩ := vals1 rz
  obtain ⟨its, rv, pl, _⟩ := I.list hl
  obtain ⟨as, hr⟩ := Dp.readsAll I ds _ its hd rv
  have len := D2.dpAll_len hd
  have h4 := rv.length
  refine min_list_default (I.ok.hd hc) pl.isList (show ReadsAll s.heap its.toArray.toList ds as from hr) hal (by omega) (fun e h1 tk k => ⟨z, H, I.kept k, e1, q0 e⟩) fun y ys i v h1 tk bs e hv rd k => ?_
  have hv2 : its[i]? = some v := by simpa using hv
  have hi : i < xs.length := by
    have := (List.getElem?_eq_some_iff.mp hv2).1
    omega
  obtain ⟨u, hu2, ru⟩ := rv.get (List.getElem?_eq_getElem hi)
  rw [hv2] at hu2
  cases hu2
  obtain ⟨d, hdi, hdx⟩ := dpAll_at hd (List.getElem?_eq_getElem hi)
  have I1 := I.kept (t' := tk) k
  obtain ⟨as2, r2⟩ := Dp.reads I1 d xs[i] v hdx ru
  have m1 : minD y ys ∈ ds := by rw [e]; exact minD_mem y ys
  have ed : d = minD y ys := alike_unique _ _ _ _ _ (hal.1 _ (List.mem_of_getElem? hdi) _ m1) r2 rd
  subst ed
  exact ⟨xs[i], H, I1, ru, q y ys _ e (List.getElem_mem hi) hdx⟩
end
end D3

set_option Elab.async false
set_option linter.all false
set_option maxRecDepth 100000
set_option maxHeartbeats 2000000
namespace D3
open PySem PySem.Spec PyProof.Rows L2
section
variable {X : Cx}
/-- t.index(k): its first place -/
def rTIdx (K : PySem.W.Frag) : V → List V → Hp → VK → Prop := fun x xs H Q => ∃ (p : Addr) (ns : List Int) (k : Int) (j : Nat), x = .ref p ∧ xs = [.int k] ∧ SqT K H p (ns.map V.int) ∧ ns[j]? = some k ∧ (∀ m : Nat, m < j → ns[m]? ≠ some k) ∧ Q (.int (j : Nat)) H
theorem mt_tindex : MtR X "tuple.index" (rTIdx X.K) := by
  intro pins s σ H x xs v us Q I rx rxs h
  obtain ⟨p, ns, k, j, rfl, rfl, hs, hj, hno, q⟩ := h
  cases rx
  obtain ⟨u, rfl, ru⟩ := rxs.one
  obtain ⟨t, rfl⟩ := ru
  obtain ⟨its, rv, ⟨⟨cls, dd, data, sl⟩, ho, hc, n, hd⟩, hlen⟩ := I.tuple hs
  simp only at hc hd; subst hc hd
  have hi := ints_of_vals rv
  have sz1 : its.toArray.size = ns.length := by rw [List.size_toArray, ← rv.length, List.length_map]
  have jl : j < its.toArray.size := by rw [sz1]; exact (List.getElem?_eq_some_iff.mp hj).1
  have at_ : ∀ (m : Nat) (hm : m < its.toArray.size), ∃ (i : Int) (t1 : Tok), ns[m]? = some i ∧ its.toArray[m] = Value.int i t1 := fun m hm => by
    have hm2 : m < ns.length := by rw [← sz1]; exact hm
    obtain ⟨w2, hw, t1, hw2⟩ := rv.get (i := m) (x := .int ns[m]) (by simp [hm2])
    refine ⟨ns[m], t1, List.getElem?_eq_getElem hm2, ?_⟩
    have e := (List.getElem?_eq_some_iff.mp hw).2
    rw [← hw2, ← e]
    simp
  refine call_meets PySem.F.slot_tuple_index ⟨_, ho, rfl⟩ PySem.F.entry_tuple_index (PySem.F.args_tuple_index_2 _ _) (TI.tuple_indexAt p its.toArray n dd sl (.int k t) (eqk k) j jl ?_ ?_) ⟨ho, fun y hy => (eqk_gives hi y (by simpa using hy)).at _ _, ⟨.int (j : Nat), H, I.tok _, ⟨_, rfl⟩, q⟩⟩
  · obtain ⟨i, t1, e1, e2⟩ := at_ j jl
    rw [hj] at e1
    cases e1
    rw [e2]
    simp [eqk]
  · intro m hm mj
    obtain ⟨i, t1, e1, e2⟩ := at_ m hm
    rw [e2]
    have := hno m mj
    rw [e1] at this
    simp only [eqk]
    simpa using fun z => this (by rw [z])
/-- t[lo:hi]: the whole of it is t itself; a new one is known to hold no dict -/
def rSlF (K : PySem.W.Frag) : V → Option Int → Option Int → Hp → VK → Prop := fun x lo hi H Q => ∃ (a : Addr) (xs : List V), x = .ref a ∧ SqT K H a xs ∧ (HT.sIx xs.length 0 lo = 0 ∧ HT.sIx xs.length xs.length hi = xs.length → Q (.ref a) H) ∧
  (¬ (HT.sIx xs.length 0 lo = 0 ∧ HT.sIx xs.length xs.length hi = xs.length) → ∀ p o, H p = none → o.dict = none → Q (.ref p) (upd H p (.frz o (.tup (cutV xs lo hi)))))
theorem sl_tupF : SlR X (rSlF X.K) := by
  intro pins s σ H x v vl vu lo hi sl Q I rx hs pl pu h
  obtain ⟨a, xs, rfl, hx, q1, q2⟩ := h
  cases rx
  obtain ⟨its, r, ht, hz⟩ := I.tuple hx
  have hlen : its.toArray.size = xs.length := by rw [List.size_toArray]; exact r.length.symm
  refine ⟨"tuple", _, PyProof.Rows.slot_tuple_getitem.lookup, ht.typeIs, ?_⟩
  by_cases hw : HT.sIx xs.length 0 lo = 0 ∧ HT.sIx xs.length xs.length hi = xs.length
  · exact getItem_tuple_whole ht hs pl pu (by rw [hlen]; exact hw) ⟨.ref a, H, I, rfl, q1 hw⟩
  · refine HT.getItem_tuple_cut ht hs pl pu (by rw [hlen]; exact hw) ?_ (by rw [hlen]; exact hz)
    rw [hlen]
    exact ⟨.ref s.heap.objs.size, _, I.laid (t' := s.toks) (o := .frz _ (.tup (cutV xs lo hi))) (fun b ob e => Heap.get?_push_of_some _ e) (Nat.le_refl _) ⟨Heap.get?_push_size _ rfl, Nat.le_trans (cutV_length xs lo hi) hz, _, (r.drop (HT.sIx xs.length 0 lo)).take (HT.sIx xs.length xs.length hi - HT.sIx xs.length 0 lo), IsTup.new _ _⟩, rfl, q2 hw _ _ (I.hok.fresh (Nat.le_refl _)) rfl⟩
theorem sl_anyF {K : PySem.W.Frag} {H : Hp} {a : Addr} {xs : List V} {lo hi : Option Int} {Q : VK} (h : TupN H a xs) (q : ∀ (p : Addr) (H' : Hp), Wr.Le H H' → TupN H' p (cutV xs lo hi) → Q (.ref p) H') : rSlF K (.ref a) lo hi H Q := by
  obtain ⟨o, ho, hk⟩ := h
  refine ⟨a, xs, rfl, .inl (.inr ⟨o, hk⟩), fun z => q a H (Wr.Le.refl _) ⟨o, ho, ?_⟩, fun _ p o2 hp ho2 => q p _ (Wr.Le.new hp) ⟨o2, ho2, upd_same⟩⟩
  have e : cutV xs lo hi = xs := by
    unfold cutV
    rw [z.1, z.2, List.drop_zero, Nat.sub_zero, List.take_length]
  rw [e]
  exact hk
end
end D3

set_option Elab.async false
set_option linter.all false
set_option maxRecDepth 100000
set_option maxHeartbeats 2000000
/-! A generator expression whose own name is captured by an inner block. -/
namespace GZ
open PySem PySem.Spec PyProof.Rows L2
abbrev gEnvC (X : Cx) (sc : Scope) (C : Addr) (cd : Value) : Env := genEnv sc (cellsFrom (C + 1) sc.names (cloFrom X.env.cells sc.names [])) C cd builtinsNs X.env
def gcxC (X : Cx) (sc : Scope) (A : Around) (s : Shared) (H : Hp) (ce : Env) (fp : List Addr) (pn : List (Addr × Obj)) : Cx :=
  { X with A := A, s_0 := s, H_0 := H, env := ce, outer := X.stack, stack := ce :: X.stack, ex := fp, fn := fun x => sc.names.lookup x == some .cell, calm := true, pn := pn, xe := fun _ _ => False }
/-- the heap with the frame and its cells -/
abbrev cellH (s : Shared) (sc : Scope) : Heap := pushCells (s.heap.push { cls := .type "frame", data := .dict #[] }) sc.names
theorem cellH_old {s : Shared} {sc : Scope} {b : Addr} {o : Obj} (e : s.heap.get? b = some o) : (cellH s sc).get? b = some o := pushCells_keeps _ _ _ _ (Heap.get?_push_of_some _ e)
section
variable {M : Model} {A : Around} {E : Value → Shared → Prop} {s : Shared}
theorem newEnvC {sc : Scope} {gl : Addr} {cl : List (Str × Addr)} {it : Value} {q : Str} {cd : Value} {bi : Addr} {Q : Env → Shared → Prop} (hk : sc.kind = .function) (h0 : sc.names.lookup (".0" : Str) = some NameKind.local)
    (hQ : ∀ h1 : Heap, h1.Ns s.heap.objs.size (fun y => if y = ".0" then some it else none) → Heap.SameBut s.heap.objs.size (cellH s sc) h1 →
      Q { scope := sc, locals := s.heap.objs.size, globals := gl, cells := cellsFrom (s.heap.objs.size + 1) sc.names cl, qual := q, func := none, code := cd, frame := some s.heap.objs.size, builtins := bi } { s with heap := h1, toks := s.toks + 1 }) :
    wpAny M A (newFunctionEnv sc gl cl [(".0", it)] q none cd none bi) Q E s := by
  simp only [newFunctionEnv, Option.isSome_none, Bool.false_eq_true, if_false]
  refine wpAny_bind (wpAny_alloc (wpAny_bind (wpAny_layCells _ (fun nm kd cs => by cases z : kd == NameKind.cell <;> simp [z]) _ _ _ _ ?_)))
  have e1 : ({ s with heap := s.heap.push { cls := .type "frame", data := .dict #[] } } : Shared).heap.objs.size = s.heap.objs.size + 1 := Heap.size_push ..
  rw [e1]
  refine wpAny_bind ?_
  rw [List.forIn_cons]
  have ns : (cellH s sc).Ns s.heap.objs.size (fun _ => none) := (Heap.Ns.new s.heap (.type "frame")).keeps fun b o e => pushCells_keeps _ _ b o e
  refine wpAny_bind (wpAny_bind (wpAny_storeName_local (m := fun _ => none) (show Env.kindOf _ _ = _ from h0) ns (fun h1 hn hs => wpAny_pure ?_) (by show (sc.kind == _ || _) = false; rw [hk]; rfl)))
  show wpAny M A (forIn [] _ _) _ E _
  rw [List.forIn_nil]
  exact wpAny_pure (wpAny_pure (hQ h1 hn hs))
end
section
variable {X : Cx} {pins : List (Addr × Obj)} {σ : L2.St} {H : Hp} {s t : Shared} {sc : Scope} {own : List (Str × Nat)}
theorem own_cells {cd : Value} {y : Str} {c : Addr} (I : Inv X pins σ H s) (ok : BlkOk X.N X.env.scope sc own) (e : (gEnvC X sc s.heap.objs.size cd).cells.lookup y = some c) :
    (sc.names.lookup y = some .free ∧ X.env.cells.lookup y = some c ∧ c < s.heap.objs.size) ∨ (sc.names.lookup y = some .cell ∧ s.heap.objs.size + 1 ≤ c ∧ (cellH s sc).IsCell c none) := by
  have e : (cellsFrom (s.heap.objs.size + 1) sc.names (cloFrom X.env.cells sc.names [])).lookup y = some c := e
  rw [← Heap.size_push s.heap { cls := .type "frame", data := .dict #[] }] at e
  rcases cells_mem (PySem.mem_of_lookup e) with z | ⟨z1, z2, z3⟩
  · rcases cloFrom_mem z with z | ⟨z1, z2⟩
    · cases z
    · obtain ⟨c1, hc⟩ : ∃ c, X.env.cells.lookup y = some c := (ok.free _ z1 rfl).elim (fun k => I.ok.has _ (.inl k)) fun k => I.ok.has _ (.inr k)
      rw [hc] at z2
      cases z2
      obtain ⟨_, q⟩ := I.cell _ _ hc
      exact .inl ⟨ok.uniq _ z1, hc, q.lt⟩
  · rw [Heap.size_push] at z2
    exact .inr ⟨ok.uniq _ z1, z2, z3⟩
theorem own_has {cd : Value} {y : Str} (h : sc.names.lookup y = some .cell ∨ sc.names.lookup y = some .free) : ∃ c, (gEnvC X sc s.heap.objs.size cd).cells.lookup y = some c := by
  rcases h with h | h
  · obtain ⟨c, z⟩ := cells_has (n := s.heap.objs.size + 1) (acc := cloFrom X.env.cells sc.names []) (PySem.mem_of_lookup h)
    exact mem_lookup z
  · exact mem_lookup (cells_acc (n := s.heap.objs.size + 1) (names := sc.names) (cloFrom_has (cells := X.env.cells) (acc := []) (PySem.mem_of_lookup h)))
theorem own_inj {cd : Value} {x y : Str} {c : Addr} (I : Inv X pins σ H s) (ok : BlkOk X.N X.env.scope sc own) (h1 : (gEnvC X sc s.heap.objs.size cd).cells.lookup x = some c) (h2 : (gEnvC X sc s.heap.objs.size cd).cells.lookup y = some c) : x = y := by
  have h1 : (cellsFrom (s.heap.objs.size + 1) sc.names (cloFrom X.env.cells sc.names [])).lookup x = some c := h1
  have h2 : (cellsFrom (s.heap.objs.size + 1) sc.names (cloFrom X.env.cells sc.names [])).lookup y = some c := h2
  rw [← Heap.size_push s.heap { cls := .type "frame", data := .dict #[] }] at h1 h2
  have at_ : ∀ {y c}, (y, c) ∈ cloFrom X.env.cells sc.names [] → X.env.cells.lookup y = some c ∧ c < s.heap.objs.size := fun {y c} z => by
    rcases cloFrom_mem z with z | ⟨z1, z2⟩
    · cases z
    · obtain ⟨c1, hc⟩ : ∃ c, X.env.cells.lookup y = some c := (ok.free _ z1 rfl).elim (fun k => I.ok.has _ (.inl k)) fun k => I.ok.has _ (.inr k)
      rw [hc] at z2
      cases z2
      obtain ⟨_, q⟩ := I.cell _ _ hc
      exact ⟨hc, q.lt⟩
  refine cells_inj (fun p hp => ?_) (fun a b c u v => I.ok.inj a b c (at_ u).1 (at_ v).1) (PySem.mem_of_lookup h1) (PySem.mem_of_lookup h2)
  rw [Heap.size_push]
  exact Nat.lt_succ_of_lt (at_ (y := p.1) (c := p.2) hp).2
theorem gen_startC {fp : List Addr} {B : Around} {cd it : Value} {pn pl : List (Addr × Obj)} (I : Inv X pins σ H s) (ok : BlkOk X.N X.env.scope sc own) (hN : X.N.Nodup) (hfp : ∀ b ∈ fp, FpOk X pins H b ∧ b < s.heap.objs.size) (hh : B.handled = none)
    (hf : B.frames = some (gEnvC X sc s.heap.objs.size cd :: X.stack)) (kp : ∀ b o, s.heap.get? b = some o → t.heap.get? b = some o) (kc : ∀ c, s.heap.objs.size + 1 ≤ c → (cellH s sc).IsCell c none → t.heap.IsCell c none) (os : t.os = s.os) (hb : AllBare t.gens)
    (ns : t.heap.Ns s.heap.objs.size (fun y => if y = ".0" then some it else none)) (hp : ∀ p ∈ pn ++ pl, t.heap.get? p.1 = some p.2 ∧ s.heap.objs.size < p.1 ∧ ∀ v, p.2.data ≠ .cell v) :
    Inv (gcxC X sc B s H (gEnvC X sc s.heap.objs.size cd) fp pn) pl (wipe σ (own.map (·.2))) H t := by
  have oc := fun {y : Str} {c : Addr} (e : (gEnvC X sc s.heap.objs.size cd).cells.lookup y = some c) => own_cells I ok e
  have fr : ∀ b ∈ fp, b ∉ frs X.stack := fun b hb z => by
    rcases List.mem_cons.mp (I.stkSub b z) with z | z
    · exact (hfp b hb).1.2.1 z
    · exact (hfp b hb).1.2.2.1 z
  have okY : (gcxC X sc B s H (gEnvC X sc s.heap.objs.size cd) fp pn).Ok := by
    refine ⟨I.ok.mod, ok.kind, I.ok.glob, rfl, Nat.le_refl _, fun x y c h1 h2 => own_inj I ok h1 h2, fun y hy => own_has hy, fun y c z e => ?_, fun _ => hh, hf, .inr ⟨rfl, rfl⟩, fun b hb => ⟨Nat.ne_of_lt (hfp b hb).2, fun y c e z => ?_⟩, I.bs,
      Nat.le_trans I.ok.bsz I.sz, fun b o e hb => ?_, fr, I.stack, I.stkFree⟩
    · have z : (sc.names.lookup y == some NameKind.cell) = true := z
      have z : sc.names.lookup y = some .cell := by simpa using z
      rcases oc e with ⟨q, _⟩ | ⟨_, q, _⟩
      · rw [z] at q
        cases q
      · exact Nat.le_of_succ_le q
    · rcases oc e with ⟨_, q, _⟩ | ⟨_, q, _⟩
      · exact (hfp b hb).1.2.2.2.2.1 y c q z
      · have := (hfp b hb).2
        rw [z] at q
        exact absurd (Nat.lt_of_lt_of_le this (Nat.le_of_succ_le q)) (Nat.lt_irrefl _)
    · rcases (hfp b hb).1.2.2.2.1 with z | z
      · exact I.ok.noex b o e z
      · exact absurd (Nat.lt_of_lt_of_le (Heap.lt_size e) (Nat.le_trans I.ok.bsz z)) (Nat.lt_irrefl _)
  refine ⟨okY, os, hb, Un.kept kp, ⟨_, ns, fun i y v e1 e2 e3 => ?_⟩, fun y c e => ?_, I.hok.fresh (Nat.le_refl _), fun y c e => ?_, fun p h => ?_, I.hok.kept kp, by rw [wipe_length]; exact I.len⟩
  · obtain ⟨e2, hne⟩ := wipe_some e2
    have hfr : sc.names.lookup y = some .free := by
      have mine : ∀ k, sc.names.lookup y = some k → (k = .local ∨ k = .cell) → False := fun k e3 hk => by
        rcases ok.own _ (PySem.mem_of_lookup e3) hk with z | z
        · obtain ⟨p, hp, hpy⟩ := List.mem_map.mp z
          have e4 := ok.ix p hp
          rw [show p.1 = y from hpy] at e4
          exact hne (List.mem_map.mpr ⟨p, hp, nodup_ix hN e4 e1⟩)
        · exact z (List.mem_of_getElem? e1)
      rcases e3 with e3 | e3 | e3
      · exact (mine _ e3 (.inl rfl)).elim
      · exact (mine _ e3 (.inr rfl)).elim
      · exact e3
    obtain ⟨m, hn, hl⟩ := I.loc
    obtain ⟨u, r, q⟩ := hl i y v e1 e2 ((ok.free _ (PySem.mem_of_lookup hfr) rfl).elim (fun k => .inr (.inl k)) fun k => .inr (.inr k))
    obtain ⟨c, h1⟩ := own_has (X := X) (s := s) (sc := sc) (cd := cd) (.inr hfr)
    have h2 : X.env.cells.lookup y = some c := by
      rcases oc h1 with ⟨_, z, _⟩ | ⟨z, _⟩
      · exact z
      · rw [hfr] at z
        cases z
    refine ⟨u, r, .inr ⟨.inr hfr, c, h1, ?_⟩⟩
    rcases q with ⟨k, _⟩ | ⟨_, c2, e5, z⟩
    · have k : X.env.scope.names.lookup y = some .local := k
      rcases ok.free _ (PySem.mem_of_lookup hfr) rfl with k2 | k2 <;> rw [show X.env.scope.names.lookup y = _ from k2] at k <;> cases k
    · rw [h2] at e5
      cases e5
      exact z.keeps kp
  · rcases oc e with ⟨_, q, _⟩ | ⟨_, q1, q2⟩
    · obtain ⟨v, z⟩ := I.cell y c q
      exact ⟨v, z.keeps kp⟩
    · exact ⟨none, kc c q1 q2⟩
  · rcases oc e with ⟨_, q, _⟩ | ⟨_, q, _⟩
    · exact I.freeC y c q
    · exact I.hok.fresh (Nat.le_of_succ_le q)
  · obtain ⟨h1, h2, h3⟩ := hp p h
    refine ⟨h1, I.hok.fresh (Nat.le_of_lt h2), Nat.ne_of_gt h2, fun z => ?_, h3⟩
    rcases List.mem_cons.mp (I.stkSub _ z) with z | z
    · exact absurd I.lt (by rw [← z]; exact Nat.not_lt.mpr (Nat.le_of_lt h2))
    · exact I.nofs (Nat.le_of_lt h2) z
end
section
variable {X : Cx} {σ : L2.St} {H1 : Hp} {sc0 : Shared}
theorem gx_loopY {Y : Cx} {A : Around} {elt tg iter : Expr} {ifs : List Expr} {sc : Scope} {pos : Pos} {it a S : Addr} {gn : Nat} {fp : List Addr} {ce : Env} {go : Obj} {J : It} {tn : Nat → Heap → Prop} {g : TG} {tt : TT} {te : TE} {vs : List Nat} {cont : List V → Hp → Prop} {W : Nat → Nat → List V → Hp → Prop} {E : XK}
    (yA : Y.A = A.over (.compLoop (gexp elt tg iter ifs sc pos) 0 (.ref it) .none ce) []) (yP : Y.prog = X.prog) (yw : Y.w = X.w) (yK : Y.K = X.K) (yc : Y.calm = true) (ye : Y.env = ce) (yx : Y.ex = fp) (yp : Y.pn = [(a, go)]) (yxe : Y.xe = fun _ _ => False) (ys0 : Y.s_0 = sc0) (yH0 : Y.H_0 = H1) (yfs : Y.fs = frs X.stack)
    (T : Turn X.prog X.w X.K tg J fp it tn) (hco : ce.scope.isCoroutine = false) (hgo : ∀ h : Heap, h.get? a = some go → h.IsGen a gn) (hfa : ∀ b ∈ fp, a ≠ b ∧ S ≠ b) (haS : a ≠ S)
    (ap : Apart Y S)
    (pg : PG Y tg g) (pt : PTs Y ifs tt)
    (pe : PE Y elt te) (turn : Turns J g tt te vs σ cont W) :
    ∀ (m i : Nat) (ys : List V) (n : Nat) (s0 : Shared) (H : Hp) (s : Shared), W i m ys H → n + ys.length = sizeLine → GI Y S [] ys (wipe σ vs) H s → tn i s.heap → (∀ b ∈ fp, H b = none) →
      Seg (model X.prog X.w) A (REnd X.prog X.w X.stack H1 sc0 fp S a gn cont E) (YItem sc0 S a gn) n s0 (.compLoop (gexp elt tg iter ifs sc pos) 0 (.ref it) .none ce) ((model X.prog X.w).den (.compLoop (gexp elt tg iter ifs sc pos) 0 (.ref it) .none ce)) [] s := by
  have stat : ∀ {pl : List (Addr × Obj)} {σ' : L2.St} {H' : Hp} {s' : Shared}, (∀ p ∈ pl, ∀ b ∈ fp, p.1 ≠ b) → Inv Y pl σ' H' s' → (∀ b ∈ fp, H' b = none) → ∀ b ∈ fp, FpOk Y pl H' b := fun {pl σ' H' s'} hpl I' hn b hb => by
    have hb2 : b ∈ Y.ex := by rw [yx]; exact hb
    refine ⟨hn b hb, (I'.ok.exf b hb2).1, I'.ok.exfs b hb2, .inl hb2, fun x c e => (I'.ok.exf b hb2).2 x c e, fun p hp => ?_⟩
    rw [yp] at hp
    rcases List.mem_append.mp hp with z | z
    · rw [List.mem_singleton.mp z]
      exact (hfa b hb).1
    · exact hpl p z b hb
  intro m
  induction m using Nat.strongRecOn with
  | ind m ih =>
    intro i ys n s0 H s w en G st fr
    obtain ⟨acc, c, rv, I⟩ := G
    have hS1 : ∀ p ∈ [(S, lstObj acc c)], ∀ b ∈ fp, p.1 ≠ b := fun p hp b hb => by
      rw [List.mem_singleton.mp hp]
      exact (hfa b hb).2
    show Seg _ A _ _ _ s0 _ ((compTurn (gexp elt tg iter ifs sc pos) 0 (.ref it) .none ce).onRaise (leaving ce)) [] s
    rw [show compTurn (gexp elt tg iter ifs sc pos) 0 (.ref it) .none ce = _ from compTurn_gen .., Sem.onRaise_eq_wrap]
    refine seg_bind_wrap (wpAny_standAt (seg_bind_wrap ?_))
    rcases turn i m ys H w with ⟨stop, q⟩ | ⟨go1, Nx, hNx, step⟩
    · have td := T.done Y yP yw yK yc i _ s _ H (fun _ _ => False) I (stat hS1 I fr) st stop
      rw [yA] at td
      refine thnF td fun r s6 ⟨hr, I6⟩ => ?_
      subst hr
      obtain ⟨p1, p2, _⟩ := I6.pin (S, lstObj acc c) (List.mem_append_right _ List.mem_cons_self)
      have hb := I6.base
      rw [yfs, yx, yH0, ys0] at hb
      have ho := I6.hok
      rw [yP, yw] at ho
      have hos := I6.os
      rw [ys0] at hos
      exact seg_end (.ok .next) (.inl ⟨.inr rfl, H, ys, acc, c, hos, I6.bare, hb, ho, p2, p1, rv, by omega, q⟩)
    · have ti := T.item Y yP yw yK yc i _ s _ H (fun _ _ => False) I (stat hS1 I fr) st go1
      rw [yA] at ti
      refine thnF ti fun r s6 ⟨u, hr, h6⟩ => ?_
      subst hr
      refine seg_bind_wrap (thnF h6 fun _ s7 ⟨x, H7, I7, r7, y7, st7, n7⟩ => ?_)
      have I7p := I7.pinned (stat hS1 I7 n7) (T.obj _ _ st7)
      have sg := pg.run _ s7 _ H7 x u _ I7p r7 (step x H7 y7)
      rw [yA, yP, yw, ye, yxe] at sg
      refine seg_bind_wrap (thnF sg fun _ s8 ⟨σ8, H8, I8, hw8, q8⟩ => ?_)
      have sp := pt.run _ s8 σ8 H8 _ I8 q8
      rw [yA, yP, yw, ye, yxe] at sp
      refine seg_bind_wrap (thnF sp fun b s9 ⟨H9, I9, q9⟩ => ?_)
      have fin : ∀ {ys' : List V} {H' : Hp} {s' : Shared} (n' : Nat) (s0' : Shared), GI Y S (pinsAt fp s7.heap) ys' σ8 H' s' → Nx ys' H' → n' + ys'.length = sizeLine →
          Seg (model X.prog X.w) A (REnd X.prog X.w X.stack H1 sc0 fp S a gn cont E) (YItem sc0 S a gn) n' s0' (.compLoop (gexp elt tg iter ifs sc pos) 0 (.ref it) .none ce) ((model X.prog X.w).den (.compLoop (gexp elt tg iter ifs sc pos) 0 (.ref it) .none ce)) [] s' := fun {ys' H' s'} n' s0' G' nx en' => by
        obtain ⟨m2, hm, w2⟩ := hNx ys' H' nx
        obtain ⟨acc2, c2, rv2, I2⟩ := G'
        have pin2 : ∀ b ∈ fp, ∀ o, s7.heap.get? b = some o → s'.heap.get? b = some o ∧ H' b = none := fun b hb o e =>
          let z := I2.pin (b, o) (List.mem_append_right _ (List.mem_cons_of_mem _ (mem_pinsAt hb e)))
          ⟨z.1, z.2.1⟩
        have hl : (wipe σ vs).length = σ8.length := by rw [← hw8, wipe_length]
        have I3 : Inv Y [(S, lstObj acc2 c2)] σ8 H' s' := I2.pins_of fun p hp => by
          rw [List.mem_singleton.mp hp]
          exact I2.pin (S, lstObj acc2 c2) (List.mem_append_right _ List.mem_cons_self)
        refine ih m2 hm (i + 1) ys' n' s0' H' s' w2 en' ⟨acc2, c2, rv2, I3.weak hl fun j v e => ?_⟩ (T.keep _ _ _ st7 fun b hb o e => (pin2 b hb o e).1) fun b hb => ?_
        · rw [← hw8] at e
          exact (wipe_some e).1
        · obtain ⟨o, e, _⟩ := T.obj _ _ st7 b hb
          exact (pin2 b hb o e).2
      cases b with
      | false =>
        simp only [Bool.false_eq_true, if_false] at q9 ⊢
        exact seg_again rfl (fin n s0 ⟨acc, c, rv, I9⟩ q9 en)
      | true =>
        simp only [if_true] at q9
        obtain ⟨hz, q9⟩ := q9
        have yo : ∀ v, yieldOut ce v = yieldValue v := fun v => by simp [yieldOut, hco]
        simp only [if_true, yo]
        rw [Sem.bind_eq_wrap', Sem.bind_eq_wrap', Sem.wrap_wrap, Sem.wrap_wrap]
        have se := pe.run _ s9 σ8 H9 _ I9 q9
        rw [yA, yP, yw, ye, yxe] at se
        refine seg_wrap (thnF se fun v s10 ⟨y, H10, I10, r10, nx⟩ => ?_)
        obtain ⟨n, rfl⟩ : ∃ k, n = k + 1 := ⟨n - 1, by omega⟩
        have pS := (I10.pin (S, lstObj acc c) (List.mem_append_right _ List.mem_cons_self)).1
        have pa := (I10.pin (a, go) (List.mem_append_left _ (by rw [yp]; exact List.mem_cons_self))).1
        have hos := I10.os
        rw [ys0] at hos
        have hsz : acc.size = ys.length := by
          have e := rv.length
          rw [Array.length_toList] at e
          exact e.symm
        have G10 : GI Y S (pinsAt fp s7.heap) ys σ8 H10 s10 := ⟨acc, c, rv, I10⟩
        refine seg_at (seg_yield rfl rfl rfl ⟨hos, I10.bare, I10.nolimit, hgo _ pa, ⟨acc, c, pS, by rw [hsz]; exact en⟩, fun s11 z => ?_⟩)
        refine seg_again rfl (fin n s11 (G10.woken ?_ ?_ ap r10 z) nx (by rw [List.length_append, List.length_singleton]; omega))
        · intro p hp
          rw [yp] at hp
          rw [List.mem_singleton.mp hp]
          exact haS
        · intro p hp
          exact Ne.symm (hfa _ (of_pinsAt hp).1).2
end
section
variable {prog : Program} {w : World} {A : Around} {E : Value → Shared → Prop} {s : Shared}
theorem gen_makeC {env : Env} {elt tg iter : Expr} {ifs : List Expr} {sc : Scope} {cl : List (Str × Addr)} {pos : Pos} {Q : Value → Shared → Prop} (hco : sc.isCoroutine = false) (hcl : closureFor sc env = pure cl) (h0 : sc.names.lookup (".0" : Str) = some NameKind.local) (hk : sc.kind = .function)
    (hd : A.depth < recursionLimit) (hs : ∀ x, genFold iter env x = pure x)
    (h : wpAny (model prog w) A (eval iter env) (fun xv s1 => wpAny (model prog w) A (pyIter xv) (fun it s2 => s2.heap.NoLimit ∧ wpAny (model prog w) A (genexprCode env pos (env.qual ++ "<genexpr>") sc) (fun code s3 => wpAny (model prog w) A (builtinsFor env.globals env.builtins) (fun bi s4 =>
      ∀ h1 : Heap, h1.Ns s4.heap.objs.size (fun y => if y = ".0" then some it else none) → Heap.SameBut s4.heap.objs.size (cellH s4 sc) h1 →
        Q (.ref h1.objs.size) { s4 with
          gens := s4.gens.push (.fresh (.compStart (gexp elt tg iter ifs sc pos) 0 it .none (genEnv sc (cellsFrom (s4.heap.objs.size + 1) sc.names cl) s4.heap.objs.size code bi env))), toks := s4.toks + 1 + 1 + 1,
          heap := h1.push { cls := .type "generator", data := .fields #[.int s4.gens.size 0, .str "<genexpr>" (s4.toks + 1), .str (env.qual ++ "<genexpr>") (s4.toks + 1 + 1)] } }) E s3) E s2) E s1) E s) :
    wpAny (model prog w) A (eval (gexp elt tg iter ifs sc pos) env) Q E s := by
  rw [eval_GeneratorExp1 _ _ _ _ _ _ _ hco, hcl]
  refine wpAny_bind (thn h fun xv s1 g1 => wpAny_bind (wpAny_standAt (wpAny_bind (wpAny_of_eq (hs xv) (wpAny_bind (wpAny_holding (thn g1 fun it s2 g2 => ?_)))))))
  refine wpAny_bind (wpAny_enterFrame g2.1 hd (wpAny_bind (wpAny_pure (wpAny_bind (thn g2.2 fun cd s3 g3 => wpAny_bind (thn g3 fun bi s4 g4 => ?_))))))
  refine wpAny_bind (newEnvC hk h0 fun h1 hn hsb => ?_)
  simp only [newGenerator, newFields]
  exact wpAny_bind (wpAny_newGen (wpAny_bind (wpAny_mkText (wpAny_bind (wpAny_mkText (wpAny_newObj_type (g4 h1 hn hsb) (by size_fits)))))))
end
section
variable {X : Cx}
theorem pgen_gxC {c P : Addr} {elt tg iter : Expr} {ifs : List Expr} {sc : Scope} {own : List (Str × Nat)} {pos : Pos} {wi : TI} {g : TG} {tt : TT} {te : TE} {k : Nat} {E : XK} (hN : X.N.Nodup) (hr : Room 0 X.A) (TB : GxR.TabB X.base X.mg c P) (hcode : X.env.code = .ref c)
    (ok : BlkOk X.N X.env.scope sc own) (hco : sc.isCoroutine = false) (dot : sc.names.lookup (".0" : Str) = some NameKind.local) (hi : PI X tg iter wi)
    (hg : ∀ (A : Around) (s : Shared) (H : Hp) (C : Addr) (cd : Value) (fp : List Addr) (pn : List (Addr × Obj)), Room k A → PG (gcxC X sc A s H (gEnvC X sc C cd) fp pn) tg g)
    (ht : ∀ (A : Around) (s : Shared) (H : Hp) (C : Addr) (cd : Value) (fp : List Addr) (pn : List (Addr × Obj)), Room k A → PTs (gcxC X sc A s H (gEnvC X sc C cd) fp pn) ifs tt)
    (he : ∀ (A : Around) (s : Shared) (H : Hp) (C : Addr) (cd : Value) (fp : List Addr) (pn : List (Addr × Obj)), Room k A → PE (gcxC X sc A s H (gEnvC X sc C cd) fp pn) elt te)
    (hs : ∀ x, genFold iter X.env x = pure x := by intro _; rfl) : PGen X (k + 1) (gexp elt tg iter ifs sc pos) (tGx P wi g tt te (own.map (·.2))) E := by
  refine ⟨fun pins s σ H cont I h => ?_⟩
  have hfree : ∀ y ∈ sc.names, y.2 = .free → ∃ c, X.env.cells.lookup y.1 = some c := fun y hy e => (ok.free y hy e).elim (fun k => I.ok.has _ (.inl k)) fun k => I.ok.has _ (.inr k)
  refine gen_makeC hco (closure_ok hfree) dot ok.kind (by have := hr.dp; omega) hs ?_
  refine thn (hi.run pins s σ H _ I h) fun v s1 h1 => thn h1 fun itv s2 h2 => ?_
  obtain ⟨it, fp, tn, J, H2, rfl, I2, T, st2, f2, ⟨ps, hP, htr⟩, q⟩ := h2
  have hPs : s2.heap.get? P = some { cls := .none, data := .fields ps } := I2.hok P _ hP
  have chd : PySem.W.CodeHd s2.heap c P := TB.code.keeps I2.bk
  refine ⟨I2.nolimit, ?_⟩
  have go : ∀ (code : Value) (h3 : Heap) (tk : Nat) (ps' : Array Value), Heap.ExtBut P s2.heap h3 → s2.heap.objs.size ≤ h3.objs.size → h3.get? P = some { cls := .none, data := .fields ps' } → (∃ more, ps' = ps ++ more) → TriplesOk ps'.toList →
      wpAny (model X.prog X.w) X.A (builtinsFor X.env.globals X.env.builtins) (fun bi s4 =>
        ∀ h', h'.Ns s4.heap.objs.size (fun y => if y = ".0" then some (.ref it) else none) → Heap.SameBut s4.heap.objs.size (cellH s4 sc) h' →
          (fun u s' => ∃ H1 sc ex, Inv X pins σ H1 sc ∧ ExOk X pins ex ∧ GMade X.prog X.w (k + 1) X.stack H1 sc ex cont E u s') (.ref h'.objs.size) { s4 with
            gens := s4.gens.push (.fresh (.compStart (gexp elt tg iter ifs sc pos) 0 (.ref it) .none (genEnv sc (cellsFrom (s4.heap.objs.size + 1) sc.names (cloFrom X.env.cells sc.names [])) s4.heap.objs.size code bi X.env))), toks := s4.toks + 1 + 1 + 1,
            heap := h'.push { cls := .type "generator", data := .fields #[.int s4.gens.size 0, .str "<genexpr>" (s4.toks + 1), .str (X.env.qual ++ "<genexpr>") (s4.toks + 1 + 1)] } }) X.xe { s2 with heap := h3, toks := tk } := by
    intro code h3 tk ps' hx hsz hP3 hmore ht3
    obtain ⟨more, rfl⟩ := hmore
    obtain ⟨bm, ob, e1, e2, e3, e4, e5, e6, e7, e8⟩ := TB.bm
    have I3 : Inv X pins σ (upd H2 P (.tbl (ps ++ more))) { s2 with heap := h3, toks := tk } := GxR.inv_tab (g' := s2.gens) (d' := s2.drawn) I2 hP (fun b u hb e => hx b u hb e) hP3 I2.bare
    refine wpAny_builtinsFor (m := X.mg) (by rw [I2.ok.glob]; exact I2.mod.glob.keeps I3.bk) e1 e2 (I3.bk _ _ e5) e6 e7 e8 ?_
    generalize hs4 : ({ s2 with heap := h3, toks := tk } : Shared) = s4 at I3 ⊢
    have g4 : s4.gens = s2.gens := by rw [← hs4]
    intro h' hn' hs'
    have szp : s4.heap.objs.size + 1 ≤ h'.objs.size := hn'.lt
    have fpP : ∀ b ∈ fp, b ≠ P := fun b hb z => by
      have e := (f2 b hb).1
      rw [z, hP] at e
      cases e
    have fplt : ∀ b ∈ fp, b < s4.heap.objs.size := fun b hb => by
      obtain ⟨o, e, _⟩ := T.obj _ _ st2 b hb
      rw [← hs4]
      exact Nat.lt_of_lt_of_le (Heap.lt_size e) hsz
    have f4 : ∀ b ∈ fp, FpOk X pins (upd H2 P (.tbl (ps ++ more))) b ∧ b < s4.heap.objs.size := fun b hb => ⟨⟨by rw [upd_ne (fpP b hb)]; exact (f2 b hb).1, (f2 b hb).2⟩, fplt b hb⟩
    have st4 : tn 0 s4.heap := T.keep _ _ _ st2 fun b hb o e => by
      rw [← hs4]
      exact hx b o (fpP b hb) e
    generalize hgo : ({ cls := .type "generator", data := .fields #[.int s4.gens.size 0, .str "<genexpr>" (s4.toks + 1), .str (X.env.qual ++ "<genexpr>") (s4.toks + 1 + 1)] } : Obj) = gob
    have isg : ∀ h : Heap, h.get? h'.objs.size = some gob → h.IsGen h'.objs.size s4.gens.size := fun h e => ⟨gob, _, _, e, by rw [← hgo], by rw [← hgo], by rw [← hgo]⟩
    have gat : (h'.push gob).get? h'.objs.size = some gob := Heap.get?_push_size _ (by rw [← hgo] <;> rfl)
    have kp5 : ∀ b o, s4.heap.get? b = some o → (h'.push gob).get? b = some o := fun b o e => Heap.get?_push_of_some _ (hs'.extBut b o (Nat.ne_of_lt (Heap.lt_size e)) (cellH_old e))
    refine ⟨_, s4, fp, I3, fun b hb => ⟨(f2 b hb).2.2.2.1, (f2 b hb).2.1, (f2 b hb).2.2.2.2.1, (f2 b hb).2.2.2.2.2⟩, h'.objs.size, s4.gens.size, _, rfl, by omega, by rw [Heap.size_push]; exact Nat.lt_succ_self _, isg _ gat, Array.getElem?_push_size .., rfl, AllBare.push I3.bare rfl, I3.nolimit.keeps kp5, kp5, ?_⟩
    intro A S t hrA hfr hS hk hSo hos hba
    obtain ⟨cS, hcS⟩ := hSo
    have hS2 : h'.objs.size < S := by
      have z : (h'.push gob).objs.size ≤ S := hS
      rw [Heap.size_push] at z
      exact z
    have lt4 : s4.heap.objs.size < h'.objs.size := by omega
    have hYh : (A.over (.compLoop (gexp elt tg iter ifs sc pos) 0 (.ref it) .none (gEnvC X sc s4.heap.objs.size code)) []).handled = none := hrA.hd
    have hYf : (A.over (.compLoop (gexp elt tg iter ifs sc pos) 0 (.ref it) .none (gEnvC X sc s4.heap.objs.size code)) []).frames = some (gEnvC X sc s4.heap.objs.size code :: X.stack) := by
      show Option.map _ A.frames = _
      rw [hfr]
      rfl
    have hYr : Room k (A.over (.compLoop (gexp elt tg iter ifs sc pos) 0 (.ref it) .none (gEnvC X sc s4.heap.objs.size code)) []) :=
      ⟨hYh, by have := hrA.dp; show A.depth + 1 + 3 * k + 5 < _; omega, by have := hrA.un; show A.units + 3 + 16 * k + 200 < _; omega⟩
    obtain ⟨W, ⟨m0, w0⟩, turns⟩ := q (upd H2 P (.tbl (ps ++ more))) ⟨⟨ps ++ more, upd_same, ht3⟩, fun b hb => upd_ne hb⟩
    have kc5 : ∀ c, s4.heap.objs.size + 1 ≤ c → (cellH s4 sc).IsCell c none → t.heap.IsCell c none := fun c hc hz => ((hz.sameBut hs' (Nat.ne_of_gt hc)).keeps fun b o e => Heap.get?_push_of_some _ e).keeps hk
    have I5 := gen_startC (t := t) (pn := [(h'.objs.size, gob)]) (pl := [(S, lstObj #[] cS)]) (cd := code) I3 ok hN f4 hYh hYf (fun b o e => hk b o (kp5 b o e)) kc5 hos hba ((hn'.push _).keeps hk) fun p hp => by
      rcases List.mem_cons.mp hp with z | z
      · rw [z]
        exact ⟨hk _ _ gat, by show s4.heap.objs.size < h'.objs.size; omega, fun v e => by rw [← hgo] at e; cases e⟩
      · rw [List.mem_singleton.mp z]
        exact ⟨hcS, by show s4.heap.objs.size < S; omega, fun v e => by cases e⟩
    have st5 : tn 0 t.heap := T.keep _ _ _ st4 fun b hb o e => hk b o (kp5 b o e)
    have L := gx_loopY (X := X) (sc0 := s4) (Y := gcxC X sc (A.over (.compLoop (gexp elt tg iter ifs sc pos) 0 (.ref it) .none (gEnvC X sc s4.heap.objs.size code)) []) s4 (upd H2 P (.tbl (ps ++ more))) (gEnvC X sc s4.heap.objs.size code) fp [(h'.objs.size, gob)]) (iter := iter) (sc := sc) (pos := pos) (gn := s4.gens.size) (E := E) rfl rfl rfl rfl rfl rfl rfl rfl rfl rfl rfl rfl T hco isg (fun b hb => ⟨Nat.ne_of_gt (Nat.lt_trans (fplt b hb) lt4), Nat.ne_of_gt (Nat.lt_trans (fplt b hb) (Nat.lt_trans lt4 hS2))⟩) (Nat.ne_of_lt hS2)
      ⟨Nat.le_of_lt (Nat.lt_trans lt4 hS2), Nat.ne_of_gt (Nat.lt_trans lt4 hS2), fun y cc e z => by
        rcases own_cells I3 ok e with ⟨_, _, q2⟩ | ⟨_, q1, q2⟩
        · rw [z] at q2
          exact Nat.lt_irrefl _ (Nat.lt_trans q2 (Nat.lt_trans lt4 hS2))
        · have := (q2.sameBut hs' (Nat.ne_of_gt q1)).lt
          rw [z] at this
          exact Nat.lt_irrefl _ (Nat.lt_trans this hS2)⟩
      (hg _ s4 _ s4.heap.objs.size code fp _ hYr) (ht _ s4 _ s4.heap.objs.size code fp _ hYr) (he _ s4 _ s4.heap.objs.size code fp _ hYr) turns m0 0 [] sizeLine t _ t w0 rfl ⟨#[], cS, .nil, I5⟩ st5 fun b hb => (f4 b hb).1.1
    show Seg _ A _ _ _ t _ ((compStart (gexp elt tg iter ifs sc pos) 0 (.ref it) .none (gEnvC X sc s4.heap.objs.size code)).onRaise (leaving (gEnvC X sc s4.heap.objs.size code))) [] t
    unfold compStart
    rw [Sem.onRaise_eq_wrap]
    show Seg _ A _ _ _ t _ ((ask >>= _).wrap _ _ _ _) [] t
    refine seg_bind_wrap (wpAny_askSetting ?_)
    split
    · exact seg_again rfl L
    · refine seg_bind_wrap (wpAny_rule ?_)
      show Seg _ A _ _ _ t _ ((standAt iter.pos >>= _).wrap _ _ _ _) [] t
      exact seg_bind_wrap (wpAny_standAt (seg_bind_wrap (T.self _ 0 t _ _ st5 (seg_again rfl L))))
  cases hf : codeAmong pos ps.toList with
  | none =>
    refine wpAny_genexprCodeX hcode (chd.code hPs htr) (chd.tab hPs) hf fun c' h' tk hx hge hlt hco' _ htab' _ => ?_
    obtain ⟨o1, vs, f1, tf, fl, tg, inF, tx, tt, op, _, _, _, _, _, _, _, _, _, htr', _⟩ := hco'
    exact go _ h' tk _ hx (Nat.le_trans hge (Nat.le_of_lt hlt)) htab'.2 ⟨_, rfl⟩ htr'
  | some cv =>
    refine wpAny_genexprCode_hit hcode (chd.code hPs htr) hf ?_
    exact go cv s2.heap s2.toks ps (Heap.ExtBut.refl _ _) (Nat.le_refl _) hPs ⟨#[], by simp⟩ htr
end
end GZ

set_option Elab.async false
set_option linter.all false
set_option maxRecDepth 100000
set_option maxHeartbeats 2000000
namespace Wr
open PySem PySem.Spec PyProof.Rows L2
section
variable {X : Cx}
/-- a datum not in a list of data -/
def rNinL (K : PySem.W.Frag) : R2 := fun x y H Q => ∃ (d : PyData) (ds : List PyData), Dp K H x d ∧ Dp K H y (.list ds) ∧ d.canLay0 = true ∧ PyData.canLayAll0 ds = true ∧ d.depth ≤ 60 ∧ Q (.bl (!ds.any fun e => PyData.eqv e d)) H
theorem op_ninL (hu : X.A.units + 64 < cLine) : OpR X (compareOp .NotIn) (rNinL X.K) := by
  intro pins s σ H x y v u Q I rx ry h
  obtain ⟨d, ds, hd, he, sd, se, dd, q⟩ := h
  obtain ⟨as, r1⟩ := Dp.reads I d x v hd rx
  obtain ⟨bs, r2⟩ := Dp.reads I (.list ds) y u he ry
  have m0 : min (PyData.depthAll ds) d.depth ≤ d.depth := Nat.min_le_right _ _
  exact SeqAt.notIn_list_reads r2 r1 se sd (by omega) ⟨.bl _, H, I, rfl, q⟩
end
end Wr

set_option Elab.async false
set_option linter.all false
set_option maxRecDepth 100000
set_option maxHeartbeats 2000000
namespace Wr
open PySem PySem.Spec PyProof.Rows L2
/-! ### a call while one table is set aside: the callee can't reach it -/
/-- what is tracked and is no table stays -/
def Kp (H H' : Hp) : Prop := ∀ b o, H b = some o → NoT o → H' b = some o
section
variable {K : PySem.W.Frag} {H H' : Hp} {a : Addr} {xs : List V}
theorem Kp.sql (e : Kp H H') (h : SqL K H a xs) : SqL K H' a xs := by
  rcases h with (h | ⟨o, h⟩) | h
  · exact .inl (.inl (e _ _ h not_lst))
  · exact .inl (.inr ⟨o, e _ _ h not_frz⟩)
  · exact .inr h
theorem Kp.sqt (e : Kp H H') (h : SqT K H a xs) : SqT K H' a xs := by
  rcases h with (h | ⟨o, h⟩) | h
  · exact .inl (.inl (e _ _ h not_tup))
  · exact .inl (.inr ⟨o, e _ _ h not_frz⟩)
  · exact .inr h
theorem Kp.sq2 (e : Kp H H') (h : SqL K H a xs ∨ SqT K H a xs) : SqL K H' a xs ∨ SqT K H' a xs := h.elim (fun z => .inl (e.sql z)) fun z => .inr (e.sqt z)
theorem Kp.tupN (e : Kp H H') (h : D3.TupN H a xs) : D3.TupN H' a xs := let ⟨o, h1, h2⟩ := h; ⟨o, h1, e _ _ h2 not_frz⟩
end
mutual
theorem Kp.dp {K : PySem.W.Frag} {H H' : Hp} (e : Kp H H') : ∀ {v : V} {d : PyData}, Dp K H v d → Dp K H' v d
  | _, _, .non => .non
  | _, _, .bl b => .bl b
  | _, _, .int i => .int i
  | _, _, .str x => .str x
  | _, _, .lst h r => .lst (e.sql h) (Kp.dpAll e r)
  | _, _, .tup h r => .tup (e.sqt h) (Kp.dpAll e r)
theorem Kp.dpAll {K : PySem.W.Frag} {H H' : Hp} (e : Kp H H') : ∀ {vs : List V} {ds : List PyData}, DpAll K H vs ds → DpAll K H' vs ds
  | _, _, .nil => .nil
  | _, _, .cons h r => .cons (Kp.dp e h) (Kp.dpAll e r)
end
theorem tupN_le {H H' : Hp} {p : Addr} {xs : List V} (l : Le H H') (h : D3.TupN H p xs) : D3.TupN H' p xs := let ⟨o, h1, h2⟩ := h; ⟨o, h1, l.keep _ _ h2 not_frz⟩
theorem tupN_sq {K : PySem.W.Frag} {H : Hp} {p : Addr} {xs : List V} (h : D3.TupN H p xs) : SqT K H p xs := let ⟨o, _, h2⟩ := h; .inl (.inr ⟨o, h2⟩)
abbrev LTab (H : Hp) (P : Addr) (q : Str) : Prop := LamX.TabS H P q
theorem LTab.tabG {H : Hp} {P : Addr} {q : Str} (h : LTab H P q) : GxR.TabG H P := let ⟨ps, h1, h2, _⟩ := h; ⟨ps, h1, h2⟩
theorem not_code {c : Addr} {q : Str} : NoT (LamX.CodeO c q) := fun ps => LamX.codeO_ne ps
theorem kp_aside {H : Hp} {P : Addr} {q : Str} (h : LTab H P q) : Kp H (aside P H) := fun b o e n => by
  obtain ⟨ps, h1, _⟩ := h
  rw [aside_ne fun z => ?_]
  · exact e
  · rw [z, h1] at e
    exact n ps (Option.some.inj e).symm
theorem tab_aside {H : Hp} {P B : Addr} (ne : B ≠ P) (h : GxR.TabG H B) : GxR.TabG (aside P H) B := let ⟨ps, h1, h2⟩ := h; ⟨ps, by rw [aside_ne ne]; exact h1, h2⟩
def framedT (P : Addr) (q : Str) (sp : Sp) : Sp := fun vs H Q E => LTab H P q ∧ sp vs (aside P H) (fun v H2 => ∀ H3, Le H2 H3 → (Le (aside P H) H2 → Le H H3 ∧ LTab H3 P q) → Q v H3) E
theorem FnOk.frameT {P : Program} {w : World} {K : PySem.W.Frag} {mg : Str → Option Value} {base : Heap} {k : Nat} {f : Addr} {fd : FuncData} {ps : List Str} {sp : Sp} (F : FnOk P w K mg base CX0 k f fd ps sp) (B : Addr) (q : Str) : FnOk P w K mg base CX0 k f fd ps (framedT B q sp) := by
  refine ⟨fun vs H Q E h => F.len _ _ _ _ h.2, fun A outer s H args us vs Q E hr e0 hb hv h => ?_⟩
  obtain ⟨⟨qs, hit, htr, hcd⟩, h⟩ := h
  have nt : ∀ b o, H b = some o → o ≠ .tbl qs → b ≠ B := fun b o e n z => by
    rw [z, hit] at e
    exact n (Option.some.inj e).symm
  have hok2 : HOk P w (aside B H) s.heap := fun b o e => by
    have nb : b ≠ B := fun z => by rw [z, aside_at] at e; cases e
    rw [aside_ne nb] at e
    refine (e0.hok b o e).stay (fun _ _ _ q => q) (fun c q => ?_) fun c ys q => ?_
    · rw [aside_ne (nt c _ q (by intro z; cases z))]
      exact q
    · rw [aside_ne (nt c _ q (by intro z; cases z))]
      exact q
  have e2 : Env0 P w K mg base A outer s (aside B H) := by
    refine ⟨e0.frames, e0.mod, fun b o e => ⟨(e0.bs b o e).1, ?_⟩, e0.bsz, e0.funs, fun b hb => ?_, hok2, e0.bare⟩
    · by_cases z : b = B
      · rw [z]; exact aside_at
      · rw [aside_ne z]; exact (e0.bs b o e).2
    · by_cases z : b = B
      · rw [z]; exact aside_at
      · rw [aside_ne z]; exact e0.frf b hb
  have itf : B ∉ frs outer := fun z => by
    have := e0.frf B z
    rw [hit] at this
    cases this
  refine codeAny_mono (F.run A outer s (aside B H) args us vs _ E hr e2 hb hv h) fun r s1 hr1 => ?_
  match r, hr1 with
  | .ok (.ret u), hr1 =>
    obtain ⟨v, H2, os, bare, un, hok', rv, qq⟩ := hr1
    have gi : s.heap.get? B = some { cls := .none, data := .fields qs } := e0.hok B _ hit
    have free : H2 B = none := un.free B _ gi aside_at (by simp)
    have stays : s1.heap.get? B = _ := un.keep B _ gi aside_at itf (by simp)
    have back : ∀ b, H b = none → aside B H b = none := fun b e => by
      by_cases z : b = B
      · rw [z]; exact aside_at
      · rw [aside_ne z]; exact e
    have nit : ∀ b, H b = none → b ≠ B := fun b e z => by rw [z, hit] at e; cases e
    have fin : Le (aside B H) H2 → Le H (upd H2 B (.tbl qs)) ∧ LTab (upd H2 B (.tbl qs)) B q := fun l => by
      refine ⟨⟨fun b o e n => ?_, fun C hC => ?_, fun b e => ?_⟩, qs, upd_same, htr, fun p cv hp => ?_⟩
      · have nb := nt b o e (n qs)
        rw [upd_ne nb]
        exact l.keep b o (by rw [aside_ne nb]; exact e) n
      · by_cases z : C = B
        · rw [z]
          exact ⟨qs, upd_same, htr⟩
        · obtain ⟨rs, e1, e2⟩ := l.tab C (tab_aside z hC)
          exact ⟨rs, by rw [upd_ne z]; exact e1, e2⟩
      · by_cases z : b = B
        · rw [z, upd_same] at e
          cases e
        · rw [upd_ne z] at e
          have := l.dom b e
          rw [aside_ne z] at this
          exact this
      · obtain ⟨c, e1, e2⟩ := hcd p cv hp
        have nb := nt c _ e2 (LamX.codeO_ne qs)
        refine ⟨c, e1, ?_⟩
        rw [upd_ne nb]
        exact l.keep c _ (by rw [aside_ne nb]; exact e2) not_code
    refine ⟨v, upd H2 B (.tbl qs), os, bare, ⟨fun b o g e => un.keep b o g (back b e), fun b o g e => un.slot b o g (back b e), fun b o g e x => ?_, un.there, fun b ys e => ?_, fun b o u e => ?_, fun b rs e => ?_⟩, fun b o e => ?_, rv, qq _ (Le.new free) fin⟩
    · rw [upd_ne (nit b e)]
      exact un.free b o g (back b e) x
    · have nb := nt b _ e (by intro z; cases z)
      rw [upd_ne nb]
      exact un.tups b ys (by rw [aside_ne nb]; exact e)
    · have nb := nt b _ e (by intro z; cases z)
      rw [upd_ne nb]
      exact un.frzs b o u (by rw [aside_ne nb]; exact e)
    · by_cases z : b = B
      · rw [z, hit] at e
        cases e
        rw [z]
        exact ⟨#[], by rw [upd_same, Array.append_empty]⟩
      · rw [upd_ne z]
        exact un.tbls b rs (by rw [aside_ne z]; exact e)
    · by_cases z : b = B
      · rw [z, upd_same] at e
        cases e
        rw [z]
        exact stays
      · rw [upd_ne z] at e
        refine (hok' b o e).stay (fun _ _ _ g => g) (fun c g => ?_) fun c ys g => ?_
        · rw [upd_ne (ne_of_none g free)]
          exact g
        · rw [upd_ne (ne_of_none g free)]
          exact g
end Wr

set_option Elab.async false
set_option linter.all false
set_option maxRecDepth 100000
set_option maxHeartbeats 2000000
/-! A lambda of one parameter that is handed to a def, which calls it. -/
namespace Lm
open PySem PySem.Spec PyProof.Rows L2 Wr
/-- the parameter a stands at place i of the maker's names; no other name of its own -/
structure LamO (N : List Str) (sc scope : Scope) (a : Str) (i : Nat) : Prop where
  kind : scope.kind = .function
  co : scope.isCoroutine = false
  gen : scope.isGenerator = false
  par : scope.names.lookup a = some .local
  own : ∀ y ∈ scope.names, (y.2 = .local → y.1 = a) ∧ y.2 ≠ .cell
  ix : N[i]? = some a
  free : ∀ y ∈ scope.names, y.2 = .free → sc.names.lookup y.1 = some .cell ∨ sc.names.lookup y.1 = some .free
section
variable {X : Cx} {pins : List (Addr × Obj)} {σ : L2.St} {H HZ : Hp} {s s1 : Shared} {scope : Scope} {a : Str} {i : Nat}
theorem LamO.has (L : LamO X.N X.env.scope scope a i) (ok : X.Ok) : ∀ y ∈ scope.names, y.2 = .free → ∃ c, X.env.cells.lookup y.1 = some c := fun y hy e => (L.free y hy e).elim (fun k => ok.has _ (.inl k)) fun k => ok.has _ (.inr k)
/-- the lambda is made -/
theorem make1 {q : Str} {c P : Addr} {params : Arguments} {body : Expr} {pos : Pos} {E : Value → Shared → Prop} {Q : Value → Shared → Prop} (I : Inv X pins σ H s) (TB : GxR.TabB X.base X.mg c P) (hcode : X.env.code = .ref c) (hq : X.env.qual ++ "<lambda>" = q) (hT : LTab H P q) (hdef : defaultsOf params X.env = ([], []))
    (hfree : ∀ y ∈ scope.names, y.2 = .free → ∃ c, X.env.cells.lookup y.1 = some c)
    (h : ∀ (f c' : Addr) (pm ctv : Value) (H1 : Hp) (s' : Shared), Inv X pins σ H1 s' → Le H H1 → LTab H1 P q → s'.heap.get? f = some (PySem.W.kla_obj "<lambda>" q params body scope (cloFrom X.env.cells scope.names []) pm c' ctv) → H1 f = none → f ∉ frs X.stack → H1 c' = some (LamX.CodeO c' q) → Q (.ref f) s') :
    wpAny (model X.prog X.w) X.A (eval (.Lambda params body scope pos) X.env) Q E s := by
  have hG := hT.tabG
  obtain ⟨ps, hP, ht, ha⟩ := hT
  refine PySem.W.kla_eval hdef ?_
  rw [hq]
  have bP : s.heap.BuiltinsAt X.mg P := TB.bm.keeps I.bk
  have hPs : s.heap.get? P = some { cls := .none, data := .fields ps } := I.hok P _ hP
  have out : ∀ f, s.heap.objs.size ≤ f → f ∉ frs X.stack := fun f hf z => by
    rcases List.mem_cons.mp (I.stkSub _ z) with e | e
    · have := I.lt
      rw [← e] at this
      exact Nat.lt_irrefl _ (Nat.lt_of_lt_of_le this hf)
    · exact I.nofs hf e
  cases hc : codeAmong pos ps.toList with
  | some cv =>
    obtain ⟨c', rfl, hco⟩ := ha pos cv hc
    refine PySem.W.kla_makeFunctionHit (mg := X.mg) (c := c) (P := P) (ps := ps) (closure_ok hfree) I.ok.glob (I.mod.glob.keeps I.bk) hcode (TB.code.keeps I.bk) hPs ht hc bP fun ctv h1 tk hx hsz => ?_
    exact h h1.objs.size c' _ ctv H _ (I.kept fun b o e => Heap.get?_push_of_some _ (hx b o e)) (Le.refl H) ⟨ps, hP, ht, ha⟩ (Heap.get?_push_size _ rfl) (I.hok.fresh hsz) (out _ hsz) hco
  | none =>
    refine PySem.W.kla_makeFunction (mg := X.mg) (c := c) (P := P) (ps := ps) (closure_ok hfree) I.ok.glob (I.mod.glob.keeps I.bk) hcode (TB.code.keeps I.bk) hPs ht hc TB.gP bP fun c' ctv h1 tk hx hge hlt hrec htb => ?_
    obtain ⟨c2, oc, vs, t, e2, hoc, hd, hv⟩ := hrec
    cases e2
    have nC : H c' = none := I.hok.fresh hge
    have hsz : s.heap.objs.size ≤ h1.objs.size := Nat.le_trans hge (Nat.le_of_lt hlt)
    generalize hob : PySem.W.kla_obj "<lambda>" q params body scope (cloFrom X.env.cells scope.names []) ((X.mg "__name__").getD .none) c' ctv = ob
    have fr : ob.isFreed = false := by rw [← hob]; rfl
    have I1 := LamX.inv_table (t' := tk) (more := #[rawInt pos.line, rawInt pos.col, .ref c']) (h' := h1.push ob) I hP (fun b o hb e => Heap.get?_push_of_some _ (hx b o hb e)) (Heap.get?_push_of_some _ htb) hge ⟨oc, vs, t, Heap.get?_push_of_some _ hoc, hd, hv⟩
    have eL : (ps ++ #[rawInt pos.line, rawInt pos.col, .ref c']).toList = ps.toList ++ [rawInt pos.line, rawInt pos.col, .ref c'] := by simp
    have tr2 : TriplesOk (ps ++ #[rawInt pos.line, rawInt pos.col, .ref c']).toList := by rw [eL]; exact PySem.TriplesOk_snoc _ _ _ _ ht
    have nPc : P ≠ c' := ne_of_none hP nC
    have l1 : Le H (upd H P (.tbl (ps ++ #[rawInt pos.line, rawInt pos.col, .ref c']))) := Le.tabbed ⟨⟨_, upd_same, tr2⟩, fun b hb => upd_ne hb⟩ hG
    have l2 : Le H (upd (upd H P (.tbl (ps ++ #[rawInt pos.line, rawInt pos.col, .ref c']))) c' (LamX.CodeO c' q)) := l1.mut nC
    refine h h1.objs.size c' _ ctv _ _ I1 l2 ⟨_, by rw [upd_ne nPc, upd_same], tr2, fun p2 cv hcv => ?_⟩ (by rw [← hob]; exact Heap.get?_push_size _ rfl) ?_ (out _ hsz) upd_same
    · rw [eL] at hcv
      rcases LamX.among_app _ ht hcv with z | z
      · obtain ⟨c0, e1, e2⟩ := ha p2 cv z
        exact ⟨c0, e1, l2.keep _ _ e2 not_code⟩
      · exact ⟨c', z, upd_same⟩
    · rw [upd_ne (Nat.ne_of_gt hlt), upd_ne (Nat.ne_of_gt (Nat.lt_of_lt_of_le (Heap.lt_size hPs) hsz))]
      exact I.hok.fresh hsz
/-- its body begins -/
theorem start1 {A : Around} {outer : List Env} {E : XK} {f c' : Addr} {h₁ : Heap} {tk : Nat} {v : V} {u : Value} (hN : X.N.Nodup) (I : Inv X pins σ H s) (L : LamO X.N X.env.scope scope a i) (rv : RelV v u) (e0 : Env0 X.prog X.w X.K X.mg X.base A outer s1 HZ) (hd : A.handled = none)
    (un : Un (frs X.stack) [] H HZ s.heap s1.heap) (hns : h₁.Ns s1.heap.objs.size fun y => [(a, u)].reverse.lookup y) (kp : ∀ b o, s1.heap.get? b = some o → h₁.get? b = some o) :
    Inv (LamX.lamCx X A outer s1 HZ E scope f c') [] (σ.set i (some v)) HZ { s1 with heap := h₁, toks := tk } := by
  have hfree := L.has I.ok
  have cm := fun {y : Str} {c : Addr} (e : (cloFrom X.env.cells scope.names []).lookup y = some c) => NdefX.clo_cm hfree e
  have look : ∀ {y}, scope.names.lookup y = some .free → ∃ c, (cloFrom X.env.cells scope.names []).lookup y = some c := fun {y} hl => mem_lookup (cloFrom_has (cells := X.env.cells) (acc := []) (PySem.mem_of_lookup hl))
  have kc : ∀ {c : Addr} {v : Option Value}, H c = none → s.heap.IsCell c v → h₁.IsCell c v := fun {c v} n ⟨o, ho, hd⟩ => by
    obtain ⟨sl, q⟩ := un.any ho n (by simp)
    exact ⟨_, kp _ _ q, hd⟩
  have noA : ∀ b : Addr, b ∉ (LamX.lamCx X A outer s1 HZ E scope f c').ex := fun b z => nomatch (show b ∈ ([] : List Addr) from z)
  have okL : (LamX.lamCx X A outer s1 HZ E scope f c').Ok :=
    { mod := e0.mod, kind := L.kind, glob := rfl, blt := rfl, above := Nat.le_refl _
      inj := fun y z c e1 e2 => I.ok.inj y z c (cm e1) (cm e2)
      has := fun y hy => by
        rcases (show scope.names.lookup y = some .cell ∨ scope.names.lookup y = some .free from hy) with hy | hy
        · exact absurd rfl (L.own _ (PySem.mem_of_lookup hy)).2
        · exact look hy
      cab := fun y c z _ => (nomatch (show false = true from z))
      hd := fun _ => hd, frames := Around.frames_deeper e0.frames, stk := .inr ⟨rfl, rfl⟩
      exf := fun b z => absurd z (noA b), bs := e0.bs, bsz := e0.bsz, noex := fun b _ _ => noA b, exfs := fun b z => absurd z (noA b), funs := e0.funs, frf := e0.frf }
  refine { ok := okL, os := rfl, bare := e0.bare, base := Un.kept kp, loc := ⟨_, hns, fun j y w e1 e2 e3 => ?_⟩, cell := fun y c e => ?_, free := e0.hok.fresh (Nat.le_refl _), freeC := fun y c e => ?_, pin := fun q hq => (nomatch (show q ∈ ([] : List (Addr × Obj)) from hq)), hok := e0.hok.kept kp, len := (List.length_set).trans I.len }
  · have e1 : X.N[j]? = some y := e1
    rcases (show Vis scope y from e3) with k | k | k
    · have ey : y = a := (L.own _ (PySem.mem_of_lookup k)).1 rfl
      subst ey
      have ej : j = i := nodup_ix hN e1 L.ix
      subst ej
      have lt : j < σ.length := by
        have h1 := (List.getElem?_eq_some_iff.mp e1).1
        have h2 : σ.length = X.N.length := I.len
        omega
      rw [List.getElem?_set_self lt] at e2
      cases e2
      exact ⟨u, rv, .inl ⟨k, by simp⟩⟩
    · exact absurd rfl (L.own _ (PySem.mem_of_lookup k)).2
    · have ne : i ≠ j := fun z => by
        rw [← z, L.ix] at e1
        cases e1
        rw [L.par] at k
        cases k
      rw [List.getElem?_set_ne ne] at e2
      obtain ⟨m, hn, hl⟩ := I.loc
      obtain ⟨w', r, q⟩ := hl j y w e1 e2 ((L.free _ (PySem.mem_of_lookup k) rfl).elim (fun k => .inr (.inl k)) fun k => .inr (.inr k))
      obtain ⟨c2, h2⟩ := look k
      refine ⟨w', r, .inr ⟨.inr k, c2, h2, ?_⟩⟩
      rcases q with ⟨k1, _⟩ | ⟨_, c3, e4, z⟩
      · have k1 : X.env.scope.names.lookup y = some .local := k1
        rcases L.free _ (PySem.mem_of_lookup k) rfl with k2 | k2 <;> rw [show X.env.scope.names.lookup y = _ from k2] at k1 <;> cases k1
      · rw [cm h2] at e4
        cases e4
        exact kc (I.freeC y _ (cm h2)) z
  · obtain ⟨w', z⟩ := I.cell y c (cm e)
    exact ⟨w', kc (I.freeC y c (cm e)) z⟩
  · obtain ⟨v, o, ho, hd⟩ := I.cell y c (cm e)
    exact un.free c o ho (I.freeC y c (cm e)) (by simp)
/-- the context of the def that got it -/
abbrev zCx (X : Cx) (Ng : List Str) (qg : Str) (sg : Scope) (g : Addr) (cdg : Value) (s : Shared) (H : Hp) : Cx := (cxOf CX0 X.prog X.w X.K X.mg X.base Ng qg sg g cdg X.A X.stack s H GZ.noX).nox
/-- what the call of it reads: j the name's place there -/
def tAct (j : Nat) (f c' : Addr) (q : Str) (te : TE) (tl : V → Hp → VK → Prop) : TE := fun σZ HZ Q => σZ[j]? = some (some (.ref f)) ∧ te σZ HZ fun x H1 => H1 c' = some (LamX.CodeO c' q) ∧ tl x H1 Q
theorem act1 {q : Str} {Ng : List Str} {qg : Str} {sg : Scope} {g f c' : Addr} {cdg pm ctv : Value} {params : Arguments} {body e : Expr} {k j : Nat} {b : Str} {tb te : TE} {p1 p2 : Pos} (hN : X.N.Nodup) (I : Inv X pins σ H s) (L : LamO X.N X.env.scope scope a i) (hq : X.env.qual ++ "<lambda>" = q)
    (hf : s.heap.get? f = some (PySem.W.kla_obj "<lambda>" q params body scope (cloFrom X.env.cells scope.names []) pm c' ctv)) (hfn : H f = none) (hfr : f ∉ frs X.stack)
    (hbind : ∀ u, bindArgs (PySem.W.kla_fn "<lambda>" q params body scope (cloFrom X.env.cells scope.names []) pm (.ref c') ctv) ⟨[u], []⟩ = pure [(a, u)]) (hr : Room (k + 1) (X.A.deeper (envOfC qg sg s.heap.objs.size g cdg)))
    (hbody : ∀ (A : Around) (outer : List Env) (s : Shared) (H : Hp), Room k (A.deeper (LamX.lamEnv X scope s.heap.objs.size f c')) → PE (LamX.lamCx X A outer s H GZ.noX scope f c') body tb)
    (he : PE (zCx X Ng qg sg g cdg s H) e te) (hNg : Ng[j]? = some b) (hv : Vis sg b) (hse : starEach [e] (zCx X Ng qg sg g cdg s H).env = (false, eval e (zCx X Ng qg sg g cdg s H).env) :: starEach [] (zCx X Ng qg sg g cdg s H).env := by rfl)
    (hd : (b == ("__debug__" : Str)) = false := by decide) (hcd : (b == ("__classdict__" : Str)) = false := by decide) :
    PE (zCx X Ng qg sg g cdg s H) (.Call (.Name b p1) [e] [] p2) (tAct j f c' q te fun x H1 Q => tb (σ.set i (some x)) H1 Q) := by
  refine ⟨fun pinsZ sZ σZ HZ Q IZ h => ?_⟩
  obtain ⟨hs, ht⟩ := h
  refine wpAny_Call_Name_kw (thn ((pe_var (pos := p1) (i := j) hNg hv hd hcd).run pinsZ sZ σZ HZ (fun v H1 => v = .ref f ∧ H1 = HZ) IZ ⟨.ref f, hs, rfl, rfl⟩) fun u0 s0 ⟨v0, H0, I0, r0, ev, eH⟩ => ?_)
  subst ev
  subst eH
  obtain rfl : u0 = Value.ref f := r0
  have at_ : ∀ {s2 : Shared} {H2 : Hp}, Inv (zCx X Ng qg sg g cdg s H) pinsZ σZ H2 s2 → s2.heap.get? f = some (PySem.W.kla_obj "<lambda>" q params body scope (cloFrom X.env.cells scope.names []) pm c' ctv) := fun {s2 H2} J => J.base.keep f _ hf hfn hfr (fun z => nomatch (show f ∈ ([] : List Addr) from z))
  refine PySem.W.callWith_F ⟨_, _, _, _, at_ I0⟩ ?_ hse rfl
  rw [hse]
  refine Calls.spliced_cons (thn (he.run pinsZ s0 σZ H0 _ I0 ht) fun u1 s1 ⟨x, H1, I1, r1, hc, q1⟩ => Calls.spliced_nil ⟨⟨_, _, _, _, at_ I1⟩, ?_⟩)
  have un : Un (frs X.stack) [] H H1 s.heap s1.heap := I1.base
  obtain ⟨⟨oc, vs, t, hoc, hdc, hvc⟩, _, _⟩ := I1.hok c' _ hc
  have rc : codeAny (model X.prog X.w) (X.A.deeper (envOfC qg sg s.heap.objs.size g cdg)) (.call (.ref f) ⟨[u1], []⟩) (CR (L2.CX X.prog X.w) (envOfC qg sg s.heap.objs.size g cdg :: X.stack) X.prog X.w H1 s1 Q GZ.noX) s1 := by
    refine PySem.W.kla_callFunE hr.depth (at_ I1) rfl L.co L.gen rfl ⟨c', oc, vs, t, rfl, hoc, hdc, hvc⟩ ?_
    rw [hbind u1]
    refine wpAny_pure (wpAny_newFunctionEnv (fun y hy => (L.own y hy).2) (fun y hy => by rw [List.mem_singleton.mp hy]; exact L.par) (fun h1 hns hsb => ⟨I1.nolimit.fresh _ hsb, ?_⟩) L.kind)
    have kp : ∀ b o, s1.heap.get? b = some o → h1.get? b = some o := fun b o e => hsb.extBut b o (Nat.ne_of_lt (Heap.lt_size e)) (Heap.get?_push_of_some _ e)
    have J : Inv (LamX.lamCx X (X.A.deeper (envOfC qg sg s.heap.objs.size g cdg)) (envOfC qg sg s.heap.objs.size g cdg :: X.stack) s1 H1 GZ.noX scope f c') [] (σ.set i (some x)) H1 { s1 with heap := h1, toks := s1.toks + [(a, u1)].length } := start1 hN I L r1 I1.env0 hr.hd un hns kp
    have ee : LamX.lamEnv X scope s1.heap.objs.size f c' = PySem.W.envX q scope s1.heap.objs.size f (.ref c') (cloFrom X.env.cells scope.names []) := by rw [← hq]
    have rb : Room k ((X.A.deeper (envOfC qg sg s.heap.objs.size g cdg)).deeper (LamX.lamEnv X scope s1.heap.objs.size f c')) := hr.deeper _
    have go := (hbody _ _ s1 H1 rb).run [] _ _ H1 Q J q1
    have fin : codeAny (model X.prog X.w) (X.A.deeper (envOfC qg sg s.heap.objs.size g cdg)) (.expr body (LamX.lamEnv X scope s1.heap.objs.size f c')) (CR (L2.CX X.prog X.w) (envOfC qg sg s.heap.objs.size g cdg :: X.stack) X.prog X.w H1 s1 Q GZ.noX) { s1 with heap := h1, toks := s1.toks + [(a, u1)].length } := by
      refine PySem.W.kla_codeExpr (wpAny_mono go (fun v s' ⟨w', H', J', rv, qv⟩ => ?_) fun e s' hq => hq)
      exact ⟨w', H', J'.os, J'.bare, J'.base, J'.hok, rv, qv⟩
    rw [ee] at fin
    exact fin
  refine wpAny_call (codeAny_mono rc fun r s2 hq2 => ?_)
  cases r with
  | error e => exact (GZ.no_cx hq2).elim
  | ok fl =>
    cases fl with
    | ret u => exact I1.after hq2
    | next => exact False.elim hq2
    | brk => exact False.elim hq2
    | cont => exact False.elim hq2
end
end Lm

set_option Elab.async false
set_option linter.all false
set_option maxRecDepth 100000
set_option maxHeartbeats 2000000
namespace Lm
open PySem PySem.Spec PyProof.Rows L2 Wr
/-- x(e1, e2, lambda a: ..): TT tells what x makes of the lambda's reading -/
def tLam3 (P : Addr) (q : Str) (t1 t2 : TE) (TT : V → V → (V → Hp → VK → Prop) → Addr → Hp → VK → Prop) (tb : TE) (i : Nat) : TE := fun σ H Q => t1 σ H fun x1 H1 => t2 σ H1 fun x2 H2 => LTab H2 P q ∧ ∀ (c' : Addr) (H3 : Hp), Le H2 H3 → LTab H3 P q → H3 c' = some (LamX.CodeO c' q) → TT x1 x2 (fun v H' Q' => tb (σ.set i (some v)) H' Q') c' H3 Q
/-- the def that calls what it got as its third argument -/
def Gives3 (X : Cx) (Ng : List Str) (x : Str) (sg : Scope) (g : Addr) (cdg : Value) (bg : List Stmt) (b : Str) (q : Str) (TT : V → V → (V → Hp → VK → Prop) → Addr → Hp → VK → Prop) : Prop :=
  ∀ (f c' : Addr) (s : Shared) (H : Hp) (x1 x2 : V) (Q : VK) (tl : V → Hp → VK → Prop),
    (∀ (e : Expr) (te : TE) (p1 p2 : Pos), PE (zCx X Ng x sg g cdg s H) e te → starEach [e] (zCx X Ng x sg g cdg s H).env = (false, eval e (zCx X Ng x sg g cdg s H).env) :: starEach [] (zCx X Ng x sg g cdg s H).env → PE (zCx X Ng x sg g cdg s H) (.Call (.Name b p1) [e] [] p2) (tAct 2 f c' q te tl)) →
    TT x1 x2 tl c' H Q → ∃ t, PSs (zCx X Ng x sg g cdg s H) bg t ∧ t { nx := fun _ H' => Q .non H', rt := Q } (L2.start Ng [x1, x2, .ref f]) H
section
variable {X : Cx}
theorem pe_lam3 {q : Str} {TT : V → V → (V → Hp → VK → Prop) → Addr → Hp → VK → Prop} {x a y1 y2 b : Str} {g c P : Addr} {k i : Nat} {pg : Arguments} {bg : List Stmt} {sg : Scope} {dV kV doc pm cdv ct oc : Value} {an od : Option Addr} {osl : Array (Option Value)} {Ng : List Str}
    {params : Arguments} {body e1 e2 : Expr} {scope : Scope} {t1 t2 tb : TE} {p lpos pos : Pos} (hN : X.N.Nodup) (hg : Gl X x) (hm : X.mg x = some (.ref g)) (hk : PySem.W.keepIn X.K (.ref g) = true) (lk : X.K.lookup g = some ⟨oc, od, .func (PySem.W.fnOf x x pg bg sg dV kV doc pm an cdv ct), osl⟩)
    (hcg : PySem.W.codeIn X.K cdv x = true) (hb : L2.Binds X.K (PySem.W.fnOf x x pg bg sg dV kV doc pm an cdv ct) [y1, y2, b] []) (Sg : FnScope Ng [y1, y2, b] sg) (hNg : Ng[2]? = some b) (hvb : Vis sg b) (hG : Gives3 X Ng x sg g cdv bg b q TT)
    (TB : GxR.TabB X.base X.mg c P) (hcode : X.env.code = .ref c) (hq : X.env.qual ++ "<lambda>" = q) (hr : Room (k + 2) X.A) (L : LamO X.N X.env.scope scope a i) (hdef : defaultsOf params X.env = ([], []))
    (hbind : ∀ (cl : List (Str × Addr)) (pm cv ctv u : Value), bindArgs (PySem.W.kla_fn "<lambda>" q params body scope cl pm cv ctv) ⟨[u], []⟩ = pure [(a, u)])
    (h1 : PE X e1 t1) (h2 : PE X e2 t2) (hbody : ∀ (A : Around) (outer : List Env) (s : Shared) (H : Hp) (f c' : Addr), Room k (A.deeper (LamX.lamEnv X scope s.heap.objs.size f c')) → PE (LamX.lamCx X A outer s H GZ.noX scope f c') body tb)
    (hs1 : starEach [e1, e2, .Lambda params body scope lpos] X.env = (false, eval e1 X.env) :: starEach [e2, .Lambda params body scope lpos] X.env := by rfl) (hs2 : starEach [e2, .Lambda params body scope lpos] X.env = (false, eval e2 X.env) :: starEach [.Lambda params body scope lpos] X.env := by rfl)
    (hdb : (x == ("__debug__" : Str)) = false := by decide) (hd : (b == ("__debug__" : Str)) = false := by decide) (hcd : (b == ("__classdict__" : Str)) = false := by decide) :
    PE X (.Call (.Name x p) [e1, e2, .Lambda params body scope lpos] [] pos) (tLam3 P q t1 t2 TT tb i) := by
  refine ⟨fun pins s σ H Q I h => ?_⟩
  refine wpAny_Call_Name_kw (ld_glob I hg hm ?_ hdb)
  refine PySem.W.callWith_K (h₀ := X.base) I.ok.mod.kin hk ?_ hs1 (by rw [hs2]; rfl)
  rw [hs1, hs2]
  refine Calls.spliced_cons (thn (h1.run pins s σ H _ I h) fun u1 s1 ⟨x1, H1, I1, r1, q1⟩ => Calls.spliced_cons (thn (h2.run pins s1 σ H1 _ I1 q1) fun u2 s2 ⟨x2, H2, I2, r2, hT, q2⟩ => ?_))
  refine Calls.spliced_cons (make1 I2 TB hcode hq hT hdef (L.has I.ok) fun f c' pm2 ctv H3 s3 I3 l3 T3 hf hfn hfr hco => Calls.spliced_nil ⟨I3.kIn, ?_⟩)
  have rc : codeAny (model X.prog X.w) X.A (.call (.ref g) ⟨[u1, u2, .ref f], []⟩) (CR CX0 X.stack X.prog X.w H3 s3 Q GZ.noX) s3 := by
    refine LamX.run_ofS (N := Ng) (ps := [y1, y2, b]) (us := [u1, u2, .ref f]) (vs := [x1, x2, .ref f]) lk hcg Sg hr I3.env0 (hb s3 [u1, u2, .ref f] I3.kIn rfl) (.cons r1 (.cons r2 (.cons rfl .nil))) rfl fun hr2 => ?_
    obtain ⟨t, ht, hq2⟩ := hG f c' s3 H3 x1 x2 Q (fun v H' Q' => tb (σ.set i (some v)) H' Q') (fun e te p1 p2 he hse => act1 hN I3 L hq hf hfn hfr (hbind _ _ _ _) hr2 (fun A outer s H hr3 => hbody A outer s H f c' hr3) he hNg hvb hse hd hcd) (q2 c' H3 l3 T3 hco)
    exact ⟨t, ht.nox, hq2⟩
  refine wpAny_call (codeAny_mono rc fun r s4 hq3 => ?_)
  cases r with
  | error e => exact (show False from hq3).elim
  | ok fl =>
    cases fl with
    | ret u => exact I3.after hq3
    | next => exact False.elim hq3
    | brk => exact False.elim hq3
    | cont => exact False.elim hq3
end
def lamOB (N : List Str) (sc scope : Scope) (a : Str) (i : Nat) : Bool :=
  decide (scope.kind = .function) && !scope.isCoroutine && !scope.isGenerator && decide (scope.names.lookup a = some .local) && decide (N[i]? = some a) &&
    scope.names.all fun y => (!decide (y.2 = .local) || decide (y.1 = a)) && !decide (y.2 = .cell) && (!decide (y.2 = .free) || decide (sc.names.lookup y.1 = some .cell) || decide (sc.names.lookup y.1 = some .free))
theorem lamO_by {N : List Str} {sc scope : Scope} {a : Str} {i : Nat} (h : lamOB N sc scope a i = true) : LamO N sc scope a i := by
  unfold lamOB at h
  simp only [Bool.and_eq_true, Bool.or_eq_true, Bool.not_eq_true', decide_eq_true_eq, decide_eq_false_iff_not, List.all_eq_true] at h
  obtain ⟨⟨⟨⟨⟨h1, h2⟩, h3⟩, h4⟩, h5⟩, h6⟩ := h
  refine ⟨h1, h2, h3, h4, fun y hy => ⟨fun e => ?_, (h6 y hy).1.2⟩, h5, fun y hy e => ?_⟩
  · rcases (h6 y hy).1.1 with z | z
    · exact absurd e z
    · exact z
  · rcases (h6 y hy).2 with (z | z) | z
    · exact absurd e z
    · exact .inl z
    · exact .inr z
end Lm

set_option Elab.async false
set_option linter.all false
set_option maxRecDepth 100000
set_option maxHeartbeats 2000000
namespace D3
open PySem PySem.Spec PyProof.Rows L2 PySem.W
/-! ### d.setdefault(k, x), min(d.values(), default=x) -/
theorem atKey_any {xs : List Ent} {ys : List (NestedKey × Addr × Value)} {k : PyData} (pr : Paired EntR xs ys) : (atKey ys (nk k)).isSome = xs.any (fun x => decide (nk x.1 = nk k)) := by
  induction pr with
  | nil => rfl
  | @cons x y xs ys h t ih =>
    unfold atKey at ih ⊢
    rw [List.any_cons, List.find?_cons]
    by_cases c : nk x.1 = nk k
    · rw [decide_eq_true c, ← h.1, decide_eq_true c]
      rfl
    · rw [decide_eq_false c, ← h.1, decide_eq_false c, Bool.false_or]
      exact ih
section
variable {X : Cx} {P : Program} {w : World}
def tSdX (P : Program) (w : World) (K : PySem.W.Frag) (td ty tx : TE) : TE := fun σ H Q => td σ H fun x H1 => ∃ (d : Addr) (xs0 : List Ent), x = .ref d ∧ H1 d = some (DKO P w d xs0) ∧ ty σ H1 fun y H2 => tx σ H2 fun z H3 => ∃ (b : Addr) (xs : List Ent) (k : PyData), y = .ref b ∧ H3 d = some (DKO P w d xs) ∧ KeysOk K H3 xs ∧ KeyOk K H3 k b ∧ xs.length < sizeLine ∧
  (xs.any (fun x => decide (nk x.1 = nk k)) = true → Q ((getX xs k).getD z) H3) ∧ (xs.any (fun x => decide (nk x.1 = nk k)) = false → Q z (upd H3 d (DKO P w d (putX xs k b z))))
theorem pe_sdY {o e f : Expr} {td ty tx : TE} {apos cpos : Pos} (hP : X.prog = P) (hw : X.w = w) (hu : X.A.units + 64 < cLine) (ho : PE X o td) (he : PE X e ty) (hf : PE X f tx) (m : M2 X o "setdefault" apos e f cpos) : PE X (.Call (.Attribute o "setdefault" apos) [e, f] [] cpos) (tSdX P w X.K td ty tx) := by
  subst hP hw
  refine ⟨fun pins s σ H Q I h => ?_⟩
  refine wpAny_Call_method m.base m.few m.line PySem.F.plainAttrs_dict PySem.F.slot_dict_setdefault PySem.F.type_dict_setdefault (thn (ho.run pins s σ H _ I h) fun u s1 ⟨x, H1, I1, rx, d, xs0, ex, hd0, q1⟩ => ?_)
  subst ex
  obtain rfl : u = Value.ref d := rx
  obtain ⟨_, _, _, _, ob, _, _, g1, g2, _⟩ := dko_get I1 hd0
  refine ⟨⟨ob, g1, g2.1⟩, fun a e2 => by cases e2; exact ⟨ob, g1, g2.2.1⟩, ?_⟩
  rw [m.trees]
  refine Calls.callWith_builtin rfl (Calls.evalArgs_plain (Calls.spliced_cons (thn (he.run pins s1 σ H1 _ I1 q1) fun iv s2 ⟨y, H2, I2, ry, q2⟩ => Calls.spliced_cons (thn (hf.run pins s2 σ H2 _ I2 q2) fun fv s3 ⟨z, H3, I3, rz, b, xs, k, ey, hd, hk, hb, hl, q3, q4⟩ => Calls.spliced_nil ?_))))
  subst ey
  obtain rfl : iv = Value.ref b := ry
  have R := dko_get I3 hd
  obtain ⟨ys, pr, hm⟩ := dko_of I3 R hk
  have pl : xs.length = ys.length := Paired.length pr
  have ea := atKey_any (k := k) pr
  refine call_setdefault_heap (knd := nestedKind X.prog X.w) (show X.A.units + 1 + 8 < cLine by omega) (key_is I3 hb) R.1 hm (fun p hp => ?_) (fun hn h1 hm1 sb => ?_) (by omega)
  · rw [hp] at ea
    have r := getX_rel (k := k) pr rz
    rw [valueAt_pairsH, hp] at r
    exact ⟨_, H3, I3.tok _, r, q3 ea.symm⟩
  · rw [hn] at ea
    have R1 : dkφ X.prog X.w d (putX xs k b z) h1 := by
      obtain ⟨o, es, ep, g1, g2, g3, g4, _, g6⟩ := hm1
      exact ⟨R.1, by have := putX_len xs k b z; omega, _, putX_pair pr rz, o, es, ep, g1, g2, g3, g4, g6⟩
    have he : ∃ u, h1.get? d = some u := let ⟨o, _, _, g1, _⟩ := hm1; ⟨o, g1⟩
    exact ⟨z, _, I3.write (e := d) (t' := s3.toks + (nestedKind X.prog X.w).draws (nk k)) (by rw [hd]; trivial) (.inl rfl) (fun c ob hc z => (sb.2 c hc).trans z) he (dko_ok R1), rz, q4 ea.symm⟩
/-- the values of the dict at d -/
def ValsO (p d : Addr) : HO := .ext fun h => h.IsValuesView p d
theorem not_vals {p d : Addr} : Wr.NoT (ValsO p d) := fun _ e => by unfold ValsO at e; cases e
theorem vals_ok {H : Hp} {h : Heap} {p d : Addr} (R : h.IsValuesView p d) : ObjOk P w H h p (ValsO p d) := by
  obtain ⟨o, h1, h2, h3⟩ := id R
  exact ⟨R, ⟨o, h1⟩, fun h1 h2 ⟨o, a, b, c⟩ k => ⟨o, k o a, b, c⟩⟩
def tValsX (P : Program) (w : World) (td : TE) : TE := fun σ H Q => td σ H fun x H1 => ∃ d o xs, x = .ref d ∧ H1 d = some (.frz o (DKO P w d xs)) ∧ ∀ p, H1 p = none → Q (.ref p) (upd H1 p (ValsO p d))
theorem pe_valsY {e : Expr} {td : TE} {apos cpos : Pos} (hP : X.prog = P) (hw : X.w = w) (he : PE X e td) (hbase : attributeBase e "values" X.env (eval e X.env) = eval e X.env := by rfl) (hline : (apos.endLine == cpos.line) = true := by rfl) :
    PE X (.Call (.Attribute e "values" apos) [] [] cpos) (tValsX P w td) := by
  subst hP hw
  refine ⟨fun pins s σ H Q I h => ?_⟩
  refine wpAny_Call_method (T := "dict") (id := "dict.values") hbase rfl hline F.plainAttrs_dict F.slot_dict_values F.type_dict_values (thn (he.run pins s σ H _ I h) fun u s1 ⟨x, H1, I1, rx, d, o, xs, ex, hd, q⟩ => ?_)
  subst ex
  obtain rfl : u = Value.ref d := rx
  obtain ⟨hs, hgd, hx, es, ep, hdt, hsz, ent⟩ := frzX I1 hd
  have raw : s1.heap.DictRaw d es ep := ⟨o, hgd, hx, hdt⟩
  refine ⟨raw.typeIs, fun a e2 => by cases e2; exact ⟨o, hgd, hx.2.1⟩, ?_⟩
  have fin : EP X pins σ Q (.ref s1.heap.objs.size) { s1 with heap := s1.heap.push { cls := .type "dict_values", data := .fields #[.ref d] } } :=
    ⟨.ref s1.heap.objs.size, _, I1.laid (a := s1.heap.objs.size) (t' := s1.toks) (o := ValsO s1.heap.objs.size d) (fun _ _ z => Heap.get?_push_of_some _ z) (Nat.le_refl _) (vals_ok ⟨_, Heap.get?_push_size _ rfl, rfl, rfl⟩), rfl, q _ (I1.hok.fresh (Nat.le_refl _))⟩
  show wpAny _ _ (callWith cpos (.builtin "dict.values") [.ref d] [] []) _ X.xe s1
  exact method_meetsIn F.slot_dict_values F.entry_dict_values rfl (PySem.evalArgs_none ⟨rfl, raw.typeIs, F.args_dict_values_1 _, _, meets_dict_values_raw d hs, ⟨es, ep, raw⟩, fin⟩)
end
section
variable {prog : Program} {w : World} {A : Around} {E : Value → Shared → Prop} {s : Shared}
theorem min_vals_default {p l : Addr} {es : Array DictEntry} {ep : Nat} {xs : List PyData} {as : List Addr} {d : Value} {Q : Value → Shared → Prop} (hh : A.handled = none) (hp : s.heap.IsValuesView p l) (hl : s.heap.DictRaw l es ep) (hr : ReadsAll s.heap (es.map (·.val)).toList xs as) (ha : AlikeAll xs) (hu : A.units + 1 + PyData.depthAll xs < cLine)
    (h0 : xs = [] → ∀ h' tk, (∀ b o, s.heap.get? b = some o → h'.get? b = some o) → Q d { s with heap := h', toks := tk })
    (h : ∀ (y : PyData) (ys : List PyData) (i : Nat) v h' tk bs, xs = y :: ys → (es.map (·.val))[i]? = some v → Reads h' v (minD y ys) bs → (∀ b o, s.heap.get? b = some o → h'.get? b = some o) → Q v { s with heap := h', toks := tk }) :
    wpAny (model prog w) A (call (.builtin "min") [.ref p] [(Str.ofString "default", d)]) Q E s := by
  have hn : (es.map (·.val)).size = xs.length := readsAll_len hr
  rw [Array.size_map] at hn
  have at_ : ∀ i v, (∃ hi : i < es.size, v = es[i].val) → (es.map (·.val))[i]? = some v := fun i v ⟨hi, e⟩ => by
    rw [Array.getElem?_map, Array.getElem?_eq_getElem hi, e]
    rfl
  refine call_min_walkD (wpAny_pyIter_values_raw hp hl ?_)
  have hlt := hl.lt_size
  refine ⟨_, _, _, fun a b => b = a, _, _, _, s.heap, (fun i j => dataLt (xs.getD i .none) (xs.getD j .none)), rfl, (Walks.rawValues (A := A.in1) hh _ l (Nat.ne_of_lt hlt) es ep).toS, ⟨⟨_, Heap.get?_push_size _ rfl, rfl, rfl⟩, hl.push _⟩, fun b hb => ?_, fun b o e hb => ?_, fun b o e => Heap.get?_push_of_some _ e, fun hz s' m => ?_, fun hp => ⟨fun i j vi vj s' Q E hk hi hj hq => cmpIn_lt (A := A.in1) hr ha (by show A.units + 1 + _ < _; exact hu) i j vi vj s' Q E hk (at_ _ _ hi) (at_ _ _ hj) hq, fun v s' hP m => ?_⟩⟩
  · show b < (s.heap.push _).objs.size
    rw [Heap.size_push]
    rcases List.mem_cons.mp hb with rfl | hb
    · exact Nat.lt_succ_self _
    · rcases List.mem_cons.mp hb with rfl | hb
      · exact Nat.lt_succ_of_lt hlt
      · cases hb
  · exact absurd (Heap.lt_size e) ((List.mem_singleton.mp hb) ▸ Nat.lt_irrefl _)
  · obtain ⟨h', tk, rfl, hk'⟩ := moved_old rfl rfl m
    exact h0 (List.eq_nil_of_length_eq_zero (by omega)) h' tk hk'
  · obtain ⟨h', tk, rfl, hk'⟩ := moved_old rfl rfl m
    obtain ⟨bs, r, _, _, _⟩ := readsAll_atA hr _ v (at_ _ _ hP)
    cases xs with
    | nil => exact absurd hp (by rw [hn]; exact Nat.lt_irrefl 0)
    | cons y ys =>
      have e1 : es.size - 1 = ys.length := by rw [hn]; rfl
      have e2 := (argBest_fold dataLt PyData.none y ys ys.length (Nat.le_refl _)).2
      rw [List.take_length] at e2
      have hP2 := at_ _ _ hP
      rw [e1] at r hP2
      exact h y ys _ v h' tk bs rfl hP2 (reads_keeps hk' (by unfold minD; rw [← e2]; exact r)) hk'
end
section
variable {X : Cx} {P : Program} {w : World}
def rMinVl (P : Program) (w : World) (K : PySem.W.Frag) : List V → List V → Hp → VK → Prop := fun vs zs H Q => ∃ (z : V) (p d : Addr) (o : Obj) (xs : List Ent) (ds : List PyData), zs = [z] ∧ vs = [.ref p] ∧ H p = some (ValsO p d) ∧ H d = some (.frz o (DKO P w d xs)) ∧ DpAll K H (xs.map (·.2.2)) ds ∧ AlikeAll ds ∧ PyData.depthAll ds ≤ 60 ∧ (ds = [] → Q z H) ∧ ∀ (y : PyData) (ys : List PyData) (v : V), ds = y :: ys → v ∈ xs.map (·.2.2) → Dp K H v (minD y ys) → Q v H
theorem cr_minVl (hP : X.prog = P) (hw : X.w = w) (hc : X.calm = true) (hu : X.A.units + 64 < cLine) : CallRK X (.builtin "min") [Str.ofString "default"] (rMinVl P w X.K) := by
  subst hP hw
  intro pins s σ H vs zs us ws Q I r rz h
  obtain ⟨z, p, d, o, xs, ds, rfl, rfl, hp, hd0, hd, hal, hdp, q0, q⟩ := h
  obtain rfl := Vals.ref1 r
  obtain ⟨w1, rfl, e1⟩ := vals1 rz
  obtain ⟨hs, hgd, hx, es, ep, hdt, hsz, ent⟩ := frzX I hd0
  have hv : s.heap.IsValuesView p d := (I.hok p _ hp).1
  have rv : Vals (xs.map (·.2.2)) (es.map (·.val)).toList := by
    refine vals_of_at (by simp [hsz]) fun j x w2 h5 h6 => ?_
    rw [List.getElem?_map] at h5
    cases he : xs[j]? with
    | none => rw [he] at h5; cases h5
    | some e =>
      rw [he] at h5
      cases h5
      obtain ⟨en, g1, _, g2⟩ := ent j e he
      rw [Array.getElem?_toList, Array.getElem?_map, g1] at h6
      cases h6
      exact g2
  obtain ⟨as, hr⟩ := Dp.readsAll I ds _ _ hd rv
  have len := D2.dpAll_len hd
  have h4 := rv.length
  refine min_vals_default (I.ok.hd hc) hv ⟨o, hgd, hx, hdt⟩ hr hal (by omega) (fun e h1 tk k => ⟨z, H, I.kept k, e1, q0 e⟩) fun y ys i v h1 tk bs e hv rd k => ?_
  have hv2 : (es.map (·.val)).toList[i]? = some v := by rw [Array.getElem?_toList]; exact hv
  have hi : i < (xs.map (·.2.2)).length := by
    have := (List.getElem?_eq_some_iff.mp hv2).1
    omega
  obtain ⟨u, hu2, ru⟩ := rv.get (List.getElem?_eq_getElem hi)
  rw [hv2] at hu2
  cases hu2
  obtain ⟨d2, hdi, hdx⟩ := dpAll_at hd (List.getElem?_eq_getElem hi)
  have I1 := I.kept (t' := tk) k
  obtain ⟨as2, r2⟩ := Dp.reads I1 d2 _ v hdx ru
  have m1 : minD y ys ∈ ds := by rw [e]; exact minD_mem y ys
  have ed : d2 = minD y ys := alike_unique _ _ _ _ _ (hal.1 _ (List.mem_of_getElem? hdi) _ m1) r2 rd
  subst ed
  exact ⟨_, H, I1, ru, q y ys _ e (List.getElem_mem hi) hdx⟩
end
end D3

set_option Elab.async false
set_option linter.all false
set_option maxRecDepth 100000
set_option maxHeartbeats 2000000
namespace Wr
open PySem PySem.Spec PyProof.Rows L2
variable {K : PySem.W.Frag}
theorem slS {H : Hp} {a : Addr} {xs : List V} {lo hi : Option Int} {Q : VK} (h : SqT K H a xs) (r : ∀ (p : Addr) (H' : Hp), Le H H' → SqT K H' p (cutV xs lo hi) → Q (.ref p) H') : rSlA K (.ref a) lo hi H Q := by
  refine ⟨a, xs, rfl, h, fun z => r a H (Le.refl _) ?_, fun _ p hp => r p _ (Le.new hp) (sqt upd_same)⟩
  have e : cutV xs lo hi = xs := by
    unfold cutV
    rw [z.1, z.2, List.drop_zero, Nat.sub_zero, List.take_length]
  rw [e]
  exact h
theorem catS {H : Hp} {a b : Addr} {xs ys : List V} {Q : VK} (h : SqT K H a xs) (h2 : SqT K H b ys) (hl : xs.length + ys.length ≤ sizeLine) (r : ∀ (p : Addr) (H' : Hp), Le H H' → SqT K H' p (xs ++ ys) → Q (.ref p) H') : rCatA K (.ref a) (.ref b) H Q :=
  ⟨a, b, xs, ys, rfl, rfl, h, h2, hl, fun e => r b H (Le.refl _) (by rw [e]; exact h2), fun _ e => r a H (Le.refl _) (by rw [e, List.append_nil]; exact h), fun _ _ p hp => r p _ (Le.new hp) (sqt upd_same)⟩
end Wr

set_option Elab.async false
set_option linter.all false
set_option maxRecDepth 100000
set_option maxHeartbeats 2000000
namespace Wr
open PySem PySem.Spec PyProof.Rows L2
/-! ### enumerate of what is known to be a tuple, while lists change -/
def iEnumT (K : PySem.W.Frag) (ta : TA) : TI := fun σ H R => ta σ H fun vs H1 => ∃ a xs, vs = [.ref a] ∧ SqT K H1 a xs ∧
  ∀ (J : It) (Gd : Hp → Prop), Walk J xs.length Gd (YPair (fun i => some (.int (i : Nat))) (fun i => xs[i]?)) → (∀ H2, SqT K H2 a xs → Gd H2) → R J H1
theorem pi_enumT {X : Cx} {e : Expr} {ta : TA} {p1 p2 p3 : Pos} {elts : List Expr} {kk : Nat} (hg : Gl X "enumerate") (hm : X.mg "enumerate" = none) (ha : PA X [e] ta) (hs : starEach [e] X.env = [(false, eval e X.env)] := by rfl) :
    PI X (.Tuple elts kk p3) (.Call (.Name "enumerate" p1) [e] [] p2) (iEnumT X.K ta) := by
  refine ⟨fun pins s σ H R I h => ?_⟩
  refine Call_ (ld_blt I hg hm boot_enumerate (PyProof.Rows.callWith_type1 (thn (ha.run p2 pins s σ H _ I h) fun us s1 ⟨vs, H1, I1, r1, q1⟩ => ?_) hs rfl))
  obtain ⟨a, xs, rfl, hq, q⟩ := q1
  obtain ⟨u, rfl, r⟩ := vals1 r1
  cases r
  have fr : ∀ b ∈ [s1.heap.objs.size + 1, s1.heap.objs.size], FpOk X pins H1 b := fun b hb => by
    have hle : s1.heap.objs.size ≤ b := by
      rcases List.mem_cons.mp hb with z | z
      · rw [z]; exact Nat.le_succ _
      · rw [List.mem_singleton.mp z]; exact Nat.le_refl _
    exact I1.fpOk hle (I1.hok.fresh hle)
  obtain ⟨its, rv, p, _⟩ := I1.tuple hq
  have la : a < s1.heap.objs.size := p.lt
  refine enum_callT (show s1.heap.IsTuple a its.toArray from p) fun h2 he hit hk => wpAny_pyIter_enum he ?_
  exact ⟨s1.heap.objs.size + 1, _, _, _, H1, rfl, I1.kept (t' := s1.toks) hk, turn_enumT a (s1.heap.objs.size + 1) s1.heap.objs.size (Nat.succ_ne_self _) (Nat.ne_of_lt (Nat.lt_succ_of_lt la)) (Nat.ne_of_lt la), ⟨⟨.none, he⟩, hit⟩, fr, q _ _ walk_enumT fun H2 f => f⟩
end Wr

set_option Elab.async false
set_option linter.all false
set_option maxRecDepth 100000
set_option maxHeartbeats 2000000
namespace Wr
open PySem PySem.Spec PyProof.Rows L2
mutual
theorem tupO_data : ∀ t : T, tupO t.data = true
  | .leaf n p u => by simp [T.data, tupO, tupOL]
  | .node ts => by rw [T.data, tupO]; exact tupOL_data ts
theorem tupOL_data : ∀ ts : List T, tupOL (T.dataL ts) = true
  | [] => by simp [T.dataL, tupOL]
  | t :: r => by rw [T.dataL, tupOL, tupO_data t, tupOL_data r]; rfl
end
end Wr

set_option Elab.async false
set_option linter.all false
set_option maxRecDepth 100000
set_option maxHeartbeats 2000000
namespace Wr
open PySem PySem.Spec PyProof.Rows L2
/-! ### strands as data -/
section
variable {K : PySem.W.Frag}
theorem leaf_items {H : Hp} {v : V} {n : Str} {p u : Int} (h : Dp K H v (T.leaf n p u).data) : ∃ a, v = .ref a ∧ SqT K H a [.str n, .int p, .int u] := by
  unfold T.data at h
  cases h with
  | tup h r =>
    cases r with
    | cons r1 r =>
      cases r with
      | cons r2 r =>
        cases r with
        | cons r3 r =>
          cases r
          cases r1
          cases r2
          cases r3
          exact ⟨_, rfl, h⟩
theorem strand_dp {H : Hp} {p : Addr} {nm : Str} {s u : Int} (h : SqT K H p [.str nm, .int s, .int u]) : Dp K H (.ref p) (T.leaf nm s u).data := .tup h (.cons (.str _) (.cons (.int _) (.cons (.int _) .nil)))
theorem leafD_items {H : Hp} {v : V} {l : Str × Int × Int} (h : Dp K H v (leafD l)) : ∃ a, v = .ref a ∧ SqT K H a [.str l.1, .int l.2.1, .int l.2.2] := leaf_items h
end
end Wr

set_option Elab.async false
set_option linter.all false
set_option maxRecDepth 100000
set_option maxHeartbeats 2000000
namespace Wr
open PySem PySem.Spec PyProof.Rows L2
/-! ### trees_with -/
mutual
theorem T.withs_len (s : T) : ∀ t : T, t.Ok → (t.withs s).length + 2 ≤ 3 * t.leaves.length
  | .leaf n p w, _ => Nat.le_refl 3
  | .node ts, h => by
    have h2 := h
    unfold T.Ok at h2
    have := T.withsL_len s [] ts h2.2
    rw [T.withs, List.length_cons, List.length_cons]
    show _ ≤ 3 * (T.leavesL ts).length
    omega
theorem T.withsL_len (s : T) (pre : List T) : ∀ ts : List T, T.OkL ts → (T.withsL pre ts s).length + 2 * ts.length ≤ 3 * (T.leavesL ts).length
  | [], _ => Nat.zero_le _
  | c :: r, h => by
    unfold T.OkL at h
    have h1 := T.withs_len s c h.1
    have h2 := T.withsL_len s (pre ++ [c]) r h.2
    rw [T.withsL, List.length_append, List.length_map, T.leavesL, List.length_append, List.length_cons]
    omega
end
/-- what the first i children give -/
def withsTo (s : T) (ts : List T) (i : Nat) : List T := (List.range i).flatMap fun j => match ts[j]? with | some c => (c.withs s).map fun g => .node (ts.take j ++ g :: ts.drop (j + 1)) | none => []
theorem withsTo_succ (s : T) (ts : List T) {i : Nat} {c : T} (h : ts[i]? = some c) : withsTo s ts (i + 1) = withsTo s ts i ++ (c.withs s).map fun g => .node (ts.take i ++ g :: ts.drop (i + 1)) := by
  unfold withsTo
  rw [List.range_succ, List.flatMap_append, List.flatMap_cons, List.flatMap_nil, List.append_nil, h]
theorem withsL_to (s : T) : ∀ (r pre : List T), withsTo s (pre ++ r) pre.length ++ T.withsL pre r s = withsTo s (pre ++ r) (pre.length + r.length)
  | [], pre => by rw [T.withsL, List.append_nil]; rfl
  | c :: r, pre => by
    have e : (pre ++ c :: r)[pre.length]? = some c := by simp
    have ih := withsL_to s r (pre ++ [c])
    rw [List.append_assoc, List.length_append] at ih
    have e2 : pre ++ ([c] ++ r) = pre ++ c :: r := rfl
    rw [e2] at ih
    rw [T.withsL, ← List.append_assoc, List.length_cons, show pre.length + (r.length + 1) = pre.length + [c].length + r.length by show _ = pre.length + 1 + r.length; omega, ← ih]
    congr 1
    show _ = withsTo s (pre ++ c :: r) (pre.length + 1)
    rw [withsTo_succ s _ e]
    congr 2
    funext g
    simp
theorem withs_node (s : T) (ts : List T) : (T.node ts).withs s = .node [.node ts, s] :: .node (ts ++ [s]) :: withsTo s ts ts.length := by
  have := withsL_to s ts []
  rw [T.withs]
  have e : T.withsL [] ts s = withsTo s ts ts.length := by
    have z : withsTo s ([] ++ ts) 0 = [] := rfl
    rw [List.length_nil, z, List.nil_append, Nat.zero_add] at this
    exact this
  rw [e]
theorem withsTo_len (s : T) (ts : List T) : ∀ i j, i ≤ j → (withsTo s ts i).length ≤ (withsTo s ts j).length := fun i j h => by
  obtain ⟨k, rfl⟩ : ∃ k, j = i + k := ⟨j - i, by omega⟩
  clear h
  induction k with
  | zero => exact Nat.le_refl _
  | succ k ih =>
    refine Nat.le_trans ih ?_
    unfold withsTo
    rw [← Nat.add_assoc, List.range_succ, List.flatMap_append, List.length_append]
    exact Nat.le_add_right _ _
section
variable {P : Program} {w : World} {K : PySem.W.Frag} {mg : Str → Option Value} {base : Heap}
def spTw (K : PySem.W.Frag) (n : Nat) : Sp := fun vs H Q _ => ∃ (v x : V) (t s : T), vs = [v, x] ∧ Dp K H v t.data ∧ t.Ok ∧ t.leaves.length ≤ n ∧ n ≤ 1000 ∧ Dp K H x s.data ∧
  ∀ (p : Addr) (us : List V) (H' : Hp), Le H H' → H p = none → H' p = some (.lst us) → DpAll K H' us ((t.withs s).map T.data) → Q (.ref p) H'
theorem ok_tw (G : Gx K mg) (k : Nat) : ∀ n : Nat, FnOk P w K mg base CX0 (n + k + 1) G.f_trees_with G.fd_trees_with ["tree", "strand"] (spTw K n)
  | 0 => by
    have no : ∀ vs H Q E, ¬ spTw K 0 vs H Q E := fun vs H Q E h => by
      obtain ⟨v, x, t, s, _, _, ho, h1, _⟩ := h
      have := t.lpos ho
      omega
    exact ⟨fun vs H Q E h => absurd h (no vs H Q E), fun A outer s H args us vs Q E _ _ _ _ h => absurd h (no vs H Q E)⟩
  | n + 1 => by
    have G_trees_with := ok_tw G k n
    have G_is_leaf := (ok_leaf (P := P) (w := w) (base := base) G (n + k)).mono (Nat.le_refl (n + k + 1))
    have lev : n + 1 + k + 1 = (n + k + 1) + 1 := by omega
    rw [lev]
    refine G.F_trees_with.ok sc_trees_with (fun vs H Q E h => ?_) (fun cdv A outer s0 H vs Q E hr h => ?_)
    · obtain ⟨v, x, t, s, rfl, _⟩ := h
      rfl
    obtain ⟨v, x, t, s, rfl, hd, ho, hn, hb, hx, q⟩ := h
    refine ⟨_, (pss_cons (ps_set (i := 2) sc_trees_with.nd rfl (.inl rfl) (pe_lst (pa_cons (pe_tup (pa_cons (pv 0) (pa_cons (pv 1) pa_nil))) pa_nil)))
    (pss_cons (ps_if (pt_not (pt_val (pe_call G_is_leaf hr (by rfl) G.m_is_leaf G.F_is_leaf.kp G.b_is_leaf .nil pass0 (pa_cons (pv 0) pa_nil)))) (pss_cons (ps_expr (pe_bm PySem.F.plainAttrs_list PySem.F.slot_list_append PySem.F.type_list_append mt_append (pv 2) (pa_cons (pe_op op_catA (pv 0) (pe_tup (pa_cons (pv 1) pa_nil))) pa_nil)))
    (pss_one (ps_for PassesOwn.never rfl (pi_enumT (by rfl) G.enumerate (pa_cons (pv 0) pa_nil)) (pg_tup rfl (pgs_cons (pg_name (i := 3) sc_trees_with.nd rfl (.inr rfl)) (pgs_cons (pg_name (i := 4) sc_trees_with.nd rfl (.inl rfl)) pgs_nil)))
      (pss_one (ps_expr (pe_bm PySem.F.plainAttrs_list PySem.F.slot_list_extend PySem.F.type_list_extend mt_extend (pv 2) (pa_cons (pe_lc (own := [("grown", 5)]) (g := gName 5) (tt := tYes) (by rfl) sc_trees_with.nd (pi_list (pe_call G_trees_with hr (by rfl) G.m_trees_with G.F_trees_with.kp G.b_trees_with .nil pass0 (pa_cons (pv 4) (pa_cons (pv 1) pa_nil)))) (blkOk_by (own := [("grown", 5)]) (N := N_trees_with) (sc := defScope s_trees_with) (by decide +kernel)) (fun _ _ _ _ _ => (pg_name (i := 5) sc_trees_with.nd rfl (.inl rfl) (.inr rfl))) (fun _ _ _ _ _ => pts_nil) (fun _ _ _ _ _ => (pe_op (r := rCatA K) op_catA (pe_op (r := rCatA K) op_catA (pe_slice (r := rSlA K) sl_tupA (pv 0) po_none (po_some (pv 3))) (pe_tup (pa_cons (pv 5) pa_nil))) (pe_slice (r := rSlA K) sl_tupA (pv 0) (po_some (pe_op op_add (pv 3) pe_int)) po_none)))) pa_nil))))))) pss_nil)
    (pss_one (ps_ret (pv 2))))), ?_⟩
    refine ⟨_, rfl, _, rfl, (by decide : 2 ≤ sizeLine), fun p1 hp1 => ⟨(by decide : 1 ≤ sizeLine), fun pf hpf => ?_⟩⟩
    have l1 := Le.new (o := .tup [v, x]) hp1
    have l2 := Le.new (o := .lst [.ref p1]) hpf
    have l02 := l1.trans l2
    have dv2 := l02.dp hd
    have dx2 := l02.dp hx
    have d1 : Dp K (upd (upd H p1 (.tup [v, x])) pf (.lst [.ref p1])) (.ref p1) (T.node [t, s]).data := .tup (l2.sqt (sqt upd_same)) (.cons dv2 (.cons dx2 .nil))
    have kf : upd (upd H p1 (.tup [v, x])) pf (.lst [.ref p1]) pf = some (.lst [.ref p1]) := upd_same
    have hpfH : H pf = none := l1.dom _ hpf
    generalize upd (upd H p1 (.tup [v, x])) pf (.lst [.ref p1]) = H2 at l02 dv2 dx2 d1 kf
    refine ⟨_, rfl, v, t, rfl, dv2, ho, _, rfl, ?_⟩
    cases t with
    | leaf nm pw wr =>
      refine iteF ⟨_, rfl, q pf _ H2 l02 hpfH kf ?_⟩
      rw [T.withs]
      exact .cons d1 .nil
    | node ts =>
      refine iteT ?_
      obtain ⟨a, us, rfl, hS, hAll⟩ := t_items hd
      have hAll : DpAll K H us (T.dataL ts) := hAll
      have hl : us.length = ts.length := by
        rw [dpAll_length hAll, T.dataL_map, List.length_map]
      have wn := withs_node s ts
      have wl := T.withs_len s (.node ts) ho
      have ho2 := ho
      unfold T.Ok at ho2
      have tsl := T.lposL ts ho2.2
      have hn2 : (T.leavesL ts).length ≤ n + 1 := hn
      have wl : ((T.node ts).withs s).length + 2 ≤ 3 * (T.leavesL ts).length := wl
      rw [wn, List.length_cons, List.length_cons] at wl
      have wtl := withsTo_len s ts
      refine ⟨_, rfl, .inl ⟨rfl, _, sql kf⟩, ?_⟩
      refine ⟨_, rfl, _, rfl, (by decide : 1 ≤ sizeLine), fun pt hpt => ?_⟩
      have l3 := Le.new (o := .tup [x]) hpt
      have k3 : SqT K (upd H2 pt (.tup [x])) pt [x] := sqt upd_same
      generalize upd H2 pt (.tup [x]) = H3 at l3 k3
      refine catS ((l02.trans l3).sqt hS) k3 (by rw [hl, sizeLine_eq]; show ts.length + 1 ≤ _; omega) fun p6 H4 l4 k4 => ?_
      have l24 := l3.trans l4
      have l04 := l02.trans l24
      have d6 : Dp K H4 (.ref p6) (T.node (ts ++ [s])).data := by
        rw [T.data, dataL_app]
        exact .tup k4 (dpAll_append (l04.dpAll hAll) (.cons (l04.dp hx) .nil))
      have kf4 := l24.lst kf
      refine ⟨pf, _, _, rfl, rfl, kf4, szlt (show 1 < 100000 by decide), ?_⟩
      have l5 : Le H (upd H4 pf (.lst ([.ref p1] ++ [.ref p6]))) := l04.mut hpfH
      have kf5 : upd H4 pf (.lst ([.ref p1] ++ [.ref p6])) pf = some (.lst [.ref p1, .ref p6]) := upd_same
      have da : DpAll K (upd H4 pf (.lst ([.ref p1] ++ [.ref p6]))) [.ref p1, .ref p6] (([T.node [T.node ts, s], T.node (ts ++ [s])] ++ withsTo s ts 0).map T.data) := .cons (dp_upd kf4 (tupO_data _) (l24.dp d1)) (.cons (dp_upd kf4 (tupO_data _) d6) .nil)
      generalize upd H4 pf (.lst ([.ref p1] ++ [.ref p6])) = H5 at l5 kf5 da
      generalize [V.ref p1, V.ref p6] = ac5 at kf5 da
      refine ⟨_, rfl, a, us, rfl, l5.sqt hS, fun J Gd wk hG => ?_⟩
      refine for_it wk (fun j σ' H' => ∃ (z3 z4 z5 : Option V) (acc : List V), σ' = [some (.ref a), some x, some (.ref pf), z3, z4, z5] ∧ Le H H' ∧ H' pf = some (.lst acc) ∧ DpAll K H' acc (([T.node [T.node ts, s], T.node (ts ++ [s])] ++ withsTo s ts j).map T.data)) ⟨none, none, none, _, rfl, l5, kf5, da⟩ (fun j σ' H' _ ⟨_, _, _, _, _, l', _⟩ => hG H' (l'.sqt hS)) ?_ ?_
      · rintro j x0 σ' H6 H7 hj ⟨z3, z4, z5, acc, rfl, l6, kf6, da6⟩ ⟨T', x1, y, rfl, hT', rfl, ex, hy⟩
        cases ex
        obtain ⟨d, hdi, hdx⟩ := dpAll_getV hAll hy
        have hlt : j < ts.length := by omega
        have hc : ts[j]? = some ts[j] := List.getElem?_eq_getElem hlt
        have ed : d = ts[j].data := by
          have z : (T.dataL ts)[j]? = some d := hdi
          rw [T.dataL_map, List.getElem?_map, hc] at z
          exact (Option.some.inj z).symm
        subst ed
        have cm : ts[j] ∈ ts := List.getElem_mem hlt
        have co : ts[j].Ok := T.okL_all.mp ho2.2 _ cm
        have clt : ts[j].leaves.length < (T.leavesL ts).length := T.child_lt ho cm
        have l67 := Le.new (o := .tup [.int (j : Nat), y]) hT'
        have kf7 := l67.lst kf6
        have da7 := l67.dpAll da6
        have l7 := l6.trans l67
        have k7 : SqT K (upd H6 T' (.tup [.int (j : Nat), y])) T' [.int (j : Nat), y] := sqt upd_same
        generalize upd H6 T' (.tup [.int (j : Nat), y]) = H7 at l67 kf7 da7 l7 k7
        have wsc := withsTo_succ s ts hc
        generalize ts[j] = c at hdx hc co clt wsc
        refine ⟨T', _, rfl, k7, rfl, _, _, rfl, _, _, rfl, rfl, ?_⟩
        refine ⟨_, rfl, .inl ⟨rfl, _, sql kf7⟩, _, rfl, _, rfl, y, x, c, s, rfl, l7.dp hdx, co, by omega, by omega, l7.dp hx, fun pg gs H8 l8 hpg kg dg => ⟨pg, rfl, ⟨gs, sql kg⟩, fun D hD => ?_⟩⟩
        have l08 := l7.trans l8
        have gl := dpAll_length dg
        rw [List.length_map] at gl
        have al := dpAll_length da7
        rw [List.length_map, List.length_append] at al
        have al : acc.length = 2 + (withsTo s ts j).length := al
        have w1 := wtl (j + 1) ts.length (by omega)
        rw [wsc, List.length_append, List.length_map] at w1
        refine lc_list (xs := gs) (fun m Hm => Le H8 Hm ∧ ∃ ac, Hm D = some (.lst ac) ∧ DpAll K Hm ac (((c.withs s).take m).map fun g => (T.node (ts.take j ++ g :: ts.drop (j + 1))).data)) ⟨Le.new hD, [], upd_same, .nil⟩ (fun m Hm _ ⟨lm, _⟩ => sql (lm.lst kg)) ?_ ?_
        · rintro m x2 Hm hx2 ⟨lm, ac, hac, dac⟩
          obtain ⟨d2, hdi2, hdx2⟩ := dpAll_getV (lm.dpAll dg) hx2
          rw [List.getElem?_map] at hdi2
          cases hg : (c.withs s)[m]? with
          | none => rw [hg] at hdi2; cases hdi2
          | some g =>
            rw [hg] at hdi2
            obtain rfl : g.data = d2 := Option.some.inj hdi2
            have acl := dpAll_length dac
            rw [List.length_map, List.length_take] at acl
            have l0m := l08.trans lm
            refine ⟨rfl, yes_go ?_⟩
            refine ⟨_, rfl, _, rfl, _, rfl, slS (l0m.sqt hS) fun q1 G1 m1 j1 => ?_⟩
            rw [cut_take] at j1
            refine ⟨_, rfl, (by decide : 1 ≤ sizeLine), fun q2 hq2 => ?_⟩
            have m2 := Le.new (o := .tup [x2]) hq2
            have j2 : SqT K (upd G1 q2 (.tup [x2])) q2 [x2] := sqt upd_same
            generalize upd G1 q2 (.tup [x2]) = G2 at m2 j2
            refine catS (m2.sqt j1) j2 (by rw [List.length_take, sizeLine_eq]; show _ + 1 ≤ _; omega) fun q3 G3 m3 j3 => ?_
            have l0g := l0m.trans (m1.trans (m2.trans m3))
            refine ⟨_, rfl, _, rfl, _, _, rfl, rfl, _, rfl, ?_⟩
            dsimp only [tNoPart]
            refine slS (l0g.sqt hS) fun q4 G4 m4 j4 => ?_
            rw [show ((j : Nat) : Int) + 1 = ((j + 1 : Nat) : Int) by omega, cut_drop] at j4
            refine catS (m4.sqt j3) j4 (by rw [List.length_append, List.length_take, List.length_drop, sizeLine_eq]; show _ + 1 + _ ≤ _; omega) fun q5 G5 m5 j5 => ?_
            have mm5 := m1.trans (m2.trans (m3.trans (m4.trans m5)))
            have hac5 := mm5.lst hac
            have lD : Le H8 G5 := lm.trans mm5
            refine ⟨_, hac5, szlt (by omega), lD.mut hD, _, upd_same, ?_⟩
            have dn : Dp K G5 (.ref q5) (T.node (ts.take j ++ g :: ts.drop (j + 1))).data := by
              rw [T.data, dataL_app, T.dataL, T.dataL_map, T.dataL_map, List.map_take, List.map_drop, ← T.dataL_map]
              refine .tup j5 ?_
              rw [List.append_assoc]
              have l05 := l0m.trans mm5
              exact dpAll_append (dpAll_take j (l05.dpAll hAll)) (.cons (mm5.dp hdx2) (dpAll_drop (j + 1) (l05.dpAll hAll)))
            rw [List.take_succ, hg, List.map_append]
            exact dpAll_append (dpAll_upd hac5 (tupOL_all.mpr fun d hd => by
              obtain ⟨g2, _, rfl⟩ := List.mem_map.mp hd
              exact tupO_data _) (mm5.dpAll dac)) (.cons (dp_upd hac5 (tupO_data _) dn) .nil)
        · rintro Hm ⟨lm, ac, hac, dac⟩
          rw [gl, List.take_length] at dac
          have acl := dpAll_length dac
          rw [List.length_map] at acl
          have kfm := lm.lst (l8.lst kf7)
          have nD : D ≠ pf := fun z => by
            rw [z, l8.lst kf7] at hD
            cases hD
          refine ⟨pf, D, _, _, rfl, rfl, kfm, hac, sz (by omega), ?_⟩
          refine ⟨_, _, _, _, rfl, (l08.trans lm).mut hpfH, upd_same, ?_⟩
          rw [wsc, ← List.append_assoc, List.map_append]
          refine dpAll_append (dpAll_upd kfm (tupOL_all.mpr fun d hd => by
              obtain ⟨g2, _, rfl⟩ := List.mem_map.mp hd
              exact tupO_data _) (lm.dpAll (l8.dpAll da7))) (dpAll_upd kfm ?_ ?_)
          · exact tupOL_all.mpr fun d hd => by
              obtain ⟨g2, _, rfl⟩ := List.mem_map.mp hd
              exact tupO_data _
          · rw [List.map_map]
            exact dac
      · rintro σ' H6 ⟨z3, z4, z5, acc, rfl, l6, kf6, da6⟩
        refine ⟨_, rfl, q pf acc H6 l6 hpfH kf6 ?_⟩
        rw [wn]
        rw [hl] at da6
        exact da6
end
end Wr

set_option Elab.async false
set_option linter.all false
set_option maxRecDepth 100000
set_option maxHeartbeats 2000000
namespace Wr
open PySem PySem.Spec PyProof.Rows L2
section
variable {P : Program} {w : World} {K : PySem.W.Frag} {mg : Str → Option Value} {base : Heap}
def spLeastS (K : PySem.W.Frag) : Sp := fun vs H Q _ => ∃ (L d : Int), vs = [.int L, .int d] ∧ 1 ≤ d ∧ d ≤ 1000000 ∧ Q (.int (-((-L) / d))) H
theorem ok_leastS (G : Gx K mg) (k : Nat) : FnOk P w K mg base CX0 (k + 1) G.f_least_strength G.fd_least_strength ["load", "divisor"] (spLeastS K) := by
  refine G.F_least_strength.ok sc_least_strength (fun vs H Q E h => ?_) (fun cdv A outer s H vs Q E hr h => ?_)
  · obtain ⟨L, d, rfl, _⟩ := h
    rfl
  obtain ⟨L, d, rfl, d1, d2, q⟩ := h
  refine ⟨_, (pss_one (ps_ret (pe_un un_neg (pe_op op_fdiv (pe_un un_neg (pv 0)) (pv 1))))), ?_⟩
  exact ⟨_, rfl, _, rfl, _, rfl, _, _, rfl, rfl, ⟨by omega, by omega⟩, _, rfl, q⟩
end
end Wr

set_option Elab.async false
set_option linter.all false
set_option maxRecDepth 100000
set_option maxHeartbeats 2000000
namespace Wr
open PySem PySem.Spec PyProof.Rows L2
/-! ### unbroken: the names whose strands carry no more than they can -/
section
variable {P : Program} {w : World} {K : PySem.W.Frag} {mg : Str → Option Value} {base : Heap}
def spWhole (K : PySem.W.Frag) : Sp := fun vs H Q _ => ∃ (a b : Addr) (oa ob : Obj) (d : Dv) (kv : List (L2.Key × V)) (pw : Str → Int) (L : Int), vs = [.ref a, .ref b, .int L] ∧ H a = some (.frz oa (.dK (kvD d))) ∧ H b = some (.frz ob (.dK kv)) ∧ ((kvD d).map (·.1)).Nodup ∧ d.length ≤ 1000 ∧
  (∀ x ∈ d, valV kv (Sum.inr x.1) = some (.int (pw x.1)) ∧ -(2 ^ 64) < pw x.1 ∧ pw x.1 < 2 ^ 64) ∧ ∀ (p : Addr) (H' : Hp), Le H H' → H p = none → H' p = some (.lst ((goodN pw L d).map V.str)) → Q (.ref p) H'
theorem ok_whole (G : Gx K mg) (k : Nat) : FnOk P w K mg base CX0 (k + 1) G.f_unbroken G.fd_unbroken ["divided", "strengths", "load"] (spWhole K) := by
  refine G.F_unbroken.ok sc_unbroken (fun vs H Q E h => ?_) (fun cdv A outer s H vs Q E hr h => ?_)
  · obtain ⟨a, b, oa, ob, d, kv, pw, L, rfl, _⟩ := h
    rfl
  obtain ⟨a, b, oa, ob, d, kv, pw, L, rfl, ha, hb, nd, hl, hv, q⟩ := h
  refine ⟨_, (pss_one (ps_ret (pe_lc (own := [("name", 3)]) (g := gName 3) (by rfl) sc_unbroken.nd (pi_keys (pv 0)) (blkOk_by (own := [("name", 3)]) (N := N_unbroken) (sc := defScope s_unbroken) (by decide +kernel)) (fun _ _ _ _ _ => (pg_name (i := 3) sc_unbroken.nd rfl (.inl rfl) (.inr rfl))) (fun _ _ _ _ _ => (pts_one (pt_cmpR op_le (pv 2) (pe_op op_mul (pe_dget (hu1 hr) (pv 1) (pv 3) (fun _ _ => rfl)) (pe_dget (hu1 hr) (pv 0) (pv 3) (fun _ _ => rfl))) (nomark _)))) (fun _ _ _ _ _ => (pv 3))))), ?_⟩
  have kl : (kvD d).length = d.length := List.length_map _
  refine ⟨_, rfl, a, oa, rfl, .inl ⟨_, ha, fun D hD => ?_⟩⟩
  refine ⟨fun i m H2 => m = d.length - i ∧ i ≤ d.length ∧ Le H H2 ∧ H2 D = some (.lst ((goodN pw L (d.take i)).map V.str)), ⟨d.length, rfl, Nat.zero_le _, Le.new hD, upd_same⟩, ?_⟩
  rintro i m H2 ⟨rfl, hi, l2, h2⟩
  have ha2 := l2.keep _ _ ha not_frz
  have hb2 := l2.keep _ _ hb not_frz
  by_cases hlt : i < d.length
  · refine .inr ⟨⟨ha2, by rw [kl]; exact hlt⟩, fun H' => Le H H' ∧ H' D = some (.lst ((goodN pw L (d.take (i + 1))).map V.str)), fun H' z => ⟨d.length - (i + 1), by omega, rfl, hlt, z⟩, fun x H' y => ?_⟩
    obtain ⟨e, k2, v2, hk2, rfl⟩ := y
    subst e
    have hdj : d[i]? = some d[i] := List.getElem?_eq_getElem hlt
    have hm : d[i] ∈ d := List.getElem_mem hlt
    generalize d[i] = xj at hdj hm
    have hkj : (kvD d)[i]? = some (Sum.inr xj.1, .int xj.2) := by
      unfold kvD
      rw [List.getElem?_map, hdj]
      rfl
    rw [hkj] at hk2
    cases hk2
    obtain ⟨v1, v2, v3⟩ := hv xj hm
    have gt := good_take pw L d i xj hdj
    have gl : (goodN pw L (d.take i)).length ≤ d.length := by
      unfold goodN
      rw [List.length_map]
      exact Nat.le_trans (List.length_filter_le _ _) (by rw [List.length_take]; omega)
    refine ⟨rfl, _, rfl, _, rfl, _, rfl, b, .int (pw xj.1), rfl, .inl ⟨_, Sum.inr xj.1, .inr ⟨ob, hb2⟩, rfl, v1.symm⟩, _, rfl, _, rfl, a, .int xj.2, rfl, .inl ⟨_, Sum.inr xj.1, .inr ⟨oa, ha2⟩, rfl, (val_at nd hkj).symm⟩, _, _, rfl, rfl, .inl ⟨v2, v3⟩, _, _, rfl, rfl, _, rfl, ?_⟩
    refine ite2 (fun c => ?_) (fun c => ?_)
    · have c := of_decide_eq_true c
      rw [if_pos c] at gt
      refine ⟨_, rfl, _, h2, szlt (by rw [List.length_map]; omega), l2.mut hD, ?_⟩
      rw [upd_same, gt, List.map_append]
      rfl
    · have c : ¬ L ≤ pw xj.1 * xj.2 := fun z => c (decide_eq_true z)
      rw [if_neg c, List.append_nil] at gt
      refine ⟨l2, ?_⟩
      rw [gt]
      exact h2
  · have ei : i = d.length := by omega
    subst ei
    rw [List.take_length] at h2
    exact .inl ⟨⟨ha2, by rw [kl]; exact Nat.le_refl _⟩, q D H2 l2 hD h2⟩
end
end Wr

set_option Elab.async false
set_option linter.all false
set_option maxRecDepth 100000
set_option maxHeartbeats 2000000
namespace Wr
open PySem PySem.Spec PyProof.Rows L2
/-! ### settle: the def -/
section
variable {P : Program} {w : World} {K : PySem.W.Frag} {mg : Str → Option Value} {base : Heap}
def spSettle (K : PySem.W.Frag) (n : Nat) : Sp := fun vs H Q _ => ∃ (v : V) (t : T) (H0 : Hp) (b : Addr) (N : List Str) (L m : Int), vs = [v, .ref b, .int L, .int m] ∧ Le H0 H ∧ Dp K H0 v t.data ∧ (SqL K H b (N.map V.str) ∨ SqT K H b (N.map V.str)) ∧ t.Ok ∧ t.leaves.length ≤ n ∧ n ≤ 60 ∧ t.names.Nodup ∧
  LeafB t ∧ 1 ≤ L ∧ 0 ≤ m ∧ m ≤ 1000000 ∧ ∀ (p : Addr) (od : Obj) (S : Str → Bool) (H' : Hp), Le H H' → H p = none → H' p = some (.frz od (.dK (kvD (t.div S)))) → Best t (t.pw m) L (inL N) S → Q (.ref p) H'
theorem ok_settle (G : Gx K mg) (k n : Nat) : FnOk P w K mg base CX0 (n + k + 3) G.f_settle G.fd_settle ["rig", "names", "load", "lifts"] (spSettle K n) := by
  have G_strengths_after := ok_pows (P := P) (w := w) (base := base) G k n
  have G_divisors := (ok_div (P := P) (w := w) (base := base) G (k + 1) n).mono (show n + (k + 1) + 1 ≤ n + k + 2 by omega)
  have G_unbroken := (ok_whole (P := P) (w := w) (base := base) G 0).mono (show 0 + 1 ≤ n + k + 2 by omega)
  refine G.F_settle.ok sc_settle (fun vs H Q E h => ?_) (fun cdv A outer s H vs Q E hr h => ?_)
  · obtain ⟨v, t, H0, b, N, L, m, rfl, _⟩ := h
    rfl
  obtain ⟨v, t, H0, b, N, L, m, rfl, l0, hd, hN, ho, hn, hb, nd, hp, hL, m0, m1, q⟩ := h
  refine ⟨_, (pss_cons (ps_set (i := 4) sc_settle.nd rfl (.inl rfl) (pe_call G_strengths_after hr (by rfl) G.m_strengths_after G.F_strengths_after.kp G.b_strengths_after .nil pass0 (pa_cons (pv 0) (pa_cons (pv 3) pa_nil))))
    (pss_cons (ps_set (i := 5) sc_settle.nd rfl (.inl rfl) (pe_call G_divisors hr (by rfl) G.m_divisors G.F_divisors.kp G.b_divisors .nil pass0 (pa_cons (pv 0) (pa_cons (pv 1) pa_nil))))
    (pss_cons (ps_set (i := 6) sc_settle.nd rfl (.inl rfl) (pe_call G_unbroken hr (by rfl) G.m_unbroken G.F_unbroken.kp G.b_unbroken .nil pass0 (pa_cons (pv 5) (pa_cons (pv 4) (pa_cons (pv 2) pa_nil)))))
    (pss_cons (ps_while PassesOwn.never (pt_cmpR op_lt (pe_callB call_len_seq (by rfl) G.len PySem.boot_len (pa_cons (pv 6) pa_nil)) (pe_callB D2.call_lenR (by rfl) G.len PySem.boot_len (pa_cons (pv 5) pa_nil)) (nomark _)) (pss_cons (ps_set (i := 5) sc_settle.nd rfl (.inl rfl) (pe_call G_divisors hr (by rfl) G.m_divisors G.F_divisors.kp G.b_divisors .nil pass0 (pa_cons (pv 0) (pa_cons (pv 6) pa_nil))))
    (pss_one (ps_set (i := 6) sc_settle.nd rfl (.inl rfl) (pe_call G_unbroken hr (by rfl) G.m_unbroken G.F_unbroken.kp G.b_unbroken .nil pass0 (pa_cons (pv 5) (pa_cons (pv 4) (pa_cons (pv 2) pa_nil))))))))
    (pss_one (ps_ret (pv 5))))))), ?_⟩
  refine ⟨_, rfl, _, rfl, v, t, H0, m, rfl, l0, hd, ho, hn, hb, nd, m0, m1, fun ps ops H1 l1 hps h1 => ?_⟩
  refine ⟨_, rfl, _, rfl, v, t, H0, b, N, rfl, l0.trans l1, hd, l1.sq2 hN, ho, hn, hb, nd, fun p2 od2 H2 l2 hp2 h2 => ?_⟩
  have dl : ∀ S : Str → Bool, (t.div S).length ≤ 1000 := fun S => by
    rw [div_len]
    have z : (t.names.filter S).length ≤ t.names.length := List.length_filter_le _ _
    have z2 : t.names.length = t.leaves.length := List.length_map _
    omega
  have vals : ∀ S : Str → Bool, ∀ x ∈ t.div S, valV (t.pows m) (Sum.inr x.1) = some (.int (t.pw m x.1)) ∧ -(2 ^ 64) < t.pw m x.1 ∧ t.pw m x.1 < 2 ^ 64 := fun S x hx => ⟨pows_val (T.div_name hx).1, pw_small hp m0 m1 x.1⟩
  refine ⟨_, rfl, _, rfl, _, rfl, p2, ps, od2, ops, t.div (inL N), t.pows m, t.pw m, L, rfl, h2, l2.keep _ _ h1 not_frz, div_nd nd, dl _, vals _, fun p3 H3 l3 hp3 h3 => ?_⟩
  refine ⟨fun c σ H4 => ∃ (pd pl : Addr) (odd : Obj) (N' : List Str), σ = [some v, some (.ref b), some (.int L), some (.int m), some (.ref ps), some (.ref pd), some (.ref pl)] ∧ c = (t.div (inL N')).length ∧ Le H H4 ∧ H pd = none ∧ H4 ps = some (.frz ops (.dK (t.pows m))) ∧ H4 pd = some (.frz odd (.dK (kvD (t.div (inL N'))))) ∧
    H4 pl = some (.lst ((goodN (t.pw m) L (t.div (inL N'))).map V.str)) ∧ (∀ x, x ∈ t.names → x ∈ N' → x ∈ N) ∧ ∀ R : Str → Bool, (∀ x, R x = true → x ∈ t.names) → (∀ x, R x = true → inL N x = true) → Holds t (t.pw m) L R → ∀ x, R x = true → x ∈ N', ⟨_, p2, p3, od2, N, rfl, rfl, l1.trans (l2.trans l3), l1.dom _ hp2, l3.keep _ _ (l2.keep _ _ h1 not_frz) not_frz, l3.keep _ _ h2 not_frz, h3, fun _ _ z => z, fun R _ z _ x hx => of_decide_eq_true (z x hx)⟩, ?_⟩
  rintro c σ H4 ⟨pd, pl, odd, N', rfl, rfl, l4, hpd, h4s, h4d, h4l, hsub, hmost⟩
  refine ⟨_, rfl, pl, _, rfl, .inl (sql h4l), _, rfl, pd, _, rfl, .inr ⟨odd, h4d⟩, _, _, rfl, rfl, _, rfl, ?_⟩
  have e1 : ((goodN (t.pw m) L (t.div (inL N'))).map V.str).length = (goodN (t.pw m) L (t.div (inL N'))).length := List.length_map _
  have e2 : (kvD (t.div (inL N'))).length = (t.div (inL N')).length := List.length_map _
  refine ite2 (fun c => ?_) (fun c => ?_)
  · have c := of_decide_eq_true c
    refine ⟨_, fun σ' H' z => z, ?_⟩
    refine ⟨_, rfl, _, rfl, v, t, H0, pl, goodN (t.pw m) L (t.div (inL N')), rfl, l0.trans l4, hd, .inl (sql h4l), ho, hn, hb, nd, fun p5 od5 H5 l5 hp5 h5 => ?_⟩
    refine ⟨_, rfl, _, rfl, _, rfl, p5, ps, od5, ops, t.div (inL (goodN (t.pw m) L (t.div (inL N')))), t.pows m, t.pw m, L, rfl, h5, l5.keep _ _ h4s not_frz, div_nd nd, dl _, vals _, fun p6 H6 l6 hp6 h6 => ?_⟩
    refine ⟨_, ?_, p5, p6, od5, _, rfl, rfl, l4.trans (l5.trans l6), l4.dom _ hp5, l6.keep _ _ (l5.keep _ _ h4s not_frz) not_frz, l6.keep _ _ h5 not_frz, h6, fun x hx hg => ?_, fun R r1 r2 r3 x hx => ?_⟩
    · rw [good_len nd]
      omega
    · have z := good_iff.mp (decide_eq_true hg)
      exact hsub x hx (of_decide_eq_true (whole_sub z).2)
    · exact of_decide_eq_true (good_iff.mpr (holds_step nd hL r3 r1 (fun y hy => decide_eq_true (hmost R r1 r2 r3 y hy)) x hx))
  · have c : ¬ ((((goodN (t.pw m) L (t.div (inL N'))).map V.str).length : Nat) : Int) < (((kvD (t.div (inL N'))).length : Nat) : Int) := fun z => c (decide_eq_true z)
    refine ⟨_, rfl, q pd odd (inL N') H4 l4 hpd h4d ⟨fun x hx hs => decide_eq_true (hsub x hx (of_decide_eq_true hs)), holds_of (by omega), fun R r1 r2 r3 x hx => decide_eq_true (hmost R r1 r2 r3 x hx)⟩⟩
end
end Wr

set_option Elab.async false
set_option linter.all false
set_option maxRecDepth 100000
set_option maxHeartbeats 2000000
namespace Wr
open PySem PySem.Spec PyProof.Rows L2
/-! ### ascending names: pure -/
/-- a does not stand behind b -/
def LeS (a b : Str) : Prop := ¬ b.cps.toList < a.cps.toList
theorem LeS.refl (a : Str) : LeS a a := List.lt_irrefl _
theorem LeS.trans {a b c : Str} (h1 : LeS a b) (h2 : LeS b c) : LeS a c := fun z => by
  rcases Std.lt_trichotomy a.cps.toList b.cps.toList with y | y | y
  · exact h2 (List.lt_trans z y)
  · unfold LeS at h2
    rw [← y] at h2
    exact h2 z
  · exact h1 y
theorem LeS.antisymm {a b : Str} (h1 : LeS a b) (h2 : LeS b a) : a = b := by
  rcases Std.lt_trichotomy a.cps.toList b.cps.toList with y | y | y
  · exact absurd y h2
  · exact GZ.str_ext y
  · exact absurd y h1
def Asc (ks : List Str) : Prop := ks.Pairwise LeS
theorem rising_asc : ∀ (l : List Str) (p : Str), risingS p l = true → (∀ x ∈ l, LeS p x) ∧ Asc l
  | [], p, _ => ⟨fun _ h => absurd h (by simp), .nil⟩
  | x :: r, p, h => by
    unfold risingS at h
    rw [Bool.and_eq_true, ltCps_eq, Bool.not_eq_true', decide_eq_false_iff_not] at h
    obtain ⟨h1, h2⟩ := rising_asc r x h.2
    have hp : LeS p x := h.1
    refine ⟨fun y hy => ?_, .cons h1 h2⟩
    rcases List.mem_cons.mp hy with z | z
    · rw [z]; exact hp
    · exact hp.trans (h1 y z)
theorem sorted_asc {l : List Str} (h : sortedS l = true) : Asc l := by
  cases l with
  | nil => exact .nil
  | cons x r =>
    obtain ⟨h1, h2⟩ := rising_asc r x h
    exact .cons h1 h2
theorem asc_sorted {l : List Str} (h : Asc l) : sortedS l = true := by
  refine sortedS_of_pairwise l (h.imp fun {a b} z => ?_)
  rw [ltCps_eq]
  exact decide_eq_false z
theorem asc_uniq {l l' : List Str} (p : l.Perm l') (h : Asc l) (h' : Asc l') : l = l' := List.Perm.eq_of_pairwise (fun a b _ _ h1 h2 => LeS.antisymm h1 h2) h h' p
/-! pairs (name, number) on the heap -/
def RefsP (H : Hp) (us : List V) (ls : List (Str × Int)) : Prop := ∃ ps : List Addr, us = ps.map V.ref ∧ Paired (fun p (l : Str × Int) => H p = some (.tup [.str l.1, .int l.2])) ps ls
theorem RefsP.snoc {H : Hp} {us : List V} {ls : List (Str × Int)} {p : Addr} {l : Str × Int} (h : RefsP H us ls) (hp : H p = some (.tup [.str l.1, .int l.2])) : RefsP H (us ++ [.ref p]) (ls ++ [l]) := by
  obtain ⟨ps, rfl, h⟩ := h
  refine ⟨ps ++ [p], by rw [List.map_append]; rfl, ?_⟩
  induction h with
  | nil => exact .cons hp .nil
  | cons a _ ih => exact .cons a ih
theorem RefsP.keep {H H' : Hp} {us : List V} {ls : List (Str × Int)} (h : RefsP H us ls) (k : ∀ p xs, H p = some (.tup xs) → H' p = some (.tup xs)) : RefsP H' us ls := by
  obtain ⟨ps, rfl, h⟩ := h
  refine ⟨ps, rfl, ?_⟩
  induction h with
  | nil => exact .nil
  | cons a _ ih => exact .cons (k _ _ a) ih
theorem RefsP.len {H : Hp} {us : List V} {ls : List (Str × Int)} (h : RefsP H us ls) : us.length = ls.length := by
  obtain ⟨ps, rfl, h⟩ := h
  rw [List.length_map]
  exact Paired.length h
/-- the pair that a reference stands for -/
def kap (H : Hp) (x : V) : Str × Int := match x with
  | .ref t => match H t with
    | some (.tup [.str s, .int i]) => (s, i)
    | _ => ("", 0)
  | _ => ("", 0)
theorem kap_at {H : Hp} {t : Addr} {s : Str} {i : Int} (h : H t = some (.tup [.str s, .int i])) : kap H (.ref t) = (s, i) := by
  simp only [kap, h]
theorem RefsP.at {H : Hp} {us : List V} {ls : List (Str × Int)} (h : RefsP H us ls) : us.map (kap H) = ls ∧ ∀ x ∈ us, ∃ t, x = .ref t ∧ H t = some (.tup [.str (kap H x).1, .int (kap H x).2]) := by
  obtain ⟨ps, rfl, h⟩ := h
  induction h with
  | nil => exact ⟨rfl, fun x hx => by cases hx⟩
  | @cons p l ps ls a _ ih =>
    have e : kap H (.ref p) = l := kap_at a
    refine ⟨by rw [List.map_cons, List.map_cons, e, ih.1], fun x hx => ?_⟩
    rw [List.map_cons] at hx
    rcases List.mem_cons.mp hx with z | z
    · rw [z, e]
      exact ⟨p, rfl, a⟩
    · exact ih.2 x z
/-- .. as data -/
def pairD (x : Str × Int) : PyData := .tuple [.str x.1, .int x.2]
theorem pairs_dp {K : PySem.W.Frag} {H : Hp} : ∀ {us : List V}, (∀ x ∈ us, ∃ t, x = .ref t ∧ H t = some (.tup [.str (kap H x).1, .int (kap H x).2])) → DpAll K H us (us.map fun x => pairD (kap H x))
  | [], _ => .nil
  | x :: r, h => by
    obtain ⟨t, e, ht⟩ := h x List.mem_cons_self
    refine .cons ?_ (pairs_dp fun y hy => h y (List.mem_cons_of_mem _ hy))
    rw [e] at ht ⊢
    exact .tup (sqt ht) (.cons (.str _) (.cons (.int _) .nil))
theorem of_pairD {K : PySem.W.Frag} {H : Hp} {v : V} {x : Str × Int} (h : Dp K H v (pairD x)) : ∃ a, v = .ref a ∧ SqT K H a [.str x.1, .int x.2] := by
  unfold pairD at h
  cases h with
  | tup h r =>
    obtain ⟨u, ur, rfl, h1, r⟩ := dpAll_cons r
    obtain ⟨u2, ur2, rfl, h2, r⟩ := dpAll_cons r
    cases r
    cases h1
    cases h2
    exact ⟨_, rfl, h⟩
/-- sorted pairs of different names: sorted names -/
theorem lex_asc {κ : V → Str × Int} {ys : List V} (h : ys.Pairwise fun x y => GZ.lexS (κ y) (κ x) = false) : Asc (ys.map fun x => (κ x).1) := by
  refine List.Pairwise.map _ (fun a b hab => ?_) h
  rcases GZ.lexS_no.mp hab with z | z
  · rw [z.1]
    exact LeS.refl _
  · exact List.lt_asymm z.2
end Wr

set_option Elab.async false
set_option linter.all false
set_option maxRecDepth 100000
set_option maxHeartbeats 2000000
namespace Wr
open PySem PySem.Spec PyProof.Rows L2
/-! ### the strengths of some strands, as a dict -/
def T.kvS (t : T) (S : Str → Bool) (m : Int) : List (L2.Key × V) := (t.names.filter S).map fun n => (Sum.inr n, .int (t.pw m n))
theorem kvS_keys (t : T) (S : Str → Bool) (m : Int) : (t.kvS S m).map (·.1) = (t.names.filter S).map Sum.inr := by
  unfold T.kvS
  rw [List.map_map]
  rfl
theorem kvS_nd {t : T} (nd : t.names.Nodup) (S : Str → Bool) (m : Int) : ((t.kvS S m).map (·.1)).Nodup := by
  rw [kvS_keys]
  exact inr_nd (nd.filter _)
theorem kvS_val {t : T} (nd : t.names.Nodup) {S : Str → Bool} {m : Int} {n : Str} (h1 : n ∈ t.names) (h2 : S n = true) : valV (t.kvS S m) (Sum.inr n) = some (.int (t.pw m n)) := by
  obtain ⟨i, hi, e⟩ := List.getElem_of_mem (List.mem_filter.mpr ⟨h1, h2⟩)
  refine val_at (i := i) (kvS_nd nd S m) ?_
  unfold T.kvS
  rw [List.getElem?_map, List.getElem?_eq_getElem hi, e]
  rfl
theorem kvS_strs (t : T) (S : Str → Bool) (m : Int) : (t.kvS S m).map (fun kv => kV kv.1) = (t.names.filter S).map V.str := by
  unfold T.kvS
  rw [List.map_map]
  rfl
theorem kvS_empty {t : T} {S : Str → Bool} {m : Int} (hs : Sub S t.all) : (t.kvS S m).isEmpty = true ↔ ¬ Some1 S := by
  unfold T.kvS
  rw [List.isEmpty_iff, List.map_eq_nil_iff]
  constructor
  · rintro e ⟨n, hn⟩
    have : n ∈ t.names.filter S := List.mem_filter.mpr ⟨T.all_iff.mp (hs n hn), hn⟩
    rw [e] at this
    cases this
  · intro h
    exact filter_none2 h
  where filter_none2 {t : T} {S : Str → Bool} (h : ¬ Some1 S) : t.names.filter S = [] := List.filter_eq_nil_iff.mpr fun n _ z => h ⟨n, z⟩
theorem find_leaf {t : T} (nd : t.names.Nodup) {l : Str × Int × Int} (hl : l ∈ t.leaves) : t.leaves.find? (fun x => decide (x.1 = l.1)) = some l := by
  have e : ∀ ls : List (Str × Int × Int), (ls.map (·.1)).Nodup → l ∈ ls → ls.find? (fun x => decide (x.1 = l.1)) = some l := by
    intro ls
    induction ls with
    | nil => intro _ h; cases h
    | cons x r ih =>
      intro h1 h2
      rw [List.map_cons] at h1
      obtain ⟨n1, n2⟩ := List.nodup_cons.mp h1
      rcases List.mem_cons.mp h2 with z | z
      · rw [z, List.find?_cons_of_pos (by simp)]
      · have hne : x.1 ≠ l.1 := fun e => n1 (by rw [e]; exact List.mem_map.mpr ⟨l, z, rfl⟩)
        rw [List.find?_cons_of_neg (by simpa using hne)]
        exact ih n2 z
  exact e t.leaves nd hl
theorem pw_leaf {t : T} (nd : t.names.Nodup) {l : Str × Int × Int} (hl : l ∈ t.leaves) (m : Int) : t.pw m l.1 = l.2.1 - m * l.2.2 := by
  unfold T.pw
  rw [find_leaf nd hl]
  rfl
theorem pows_kvS {t : T} (nd : t.names.Nodup) (m : Int) : t.pows m = t.kvS t.all m := by
  unfold T.kvS T.pows
  rw [List.filter_eq_self.mpr fun n hn => T.all_iff.mpr hn]
  unfold T.names
  rw [List.map_map]
  refine List.map_congr_left fun l hl => ?_
  show (Sum.inr l.1, V.int (l.2.1 - m * l.2.2)) = (Sum.inr l.1, V.int (t.pw m l.1))
  rw [pw_leaf nd hl]
/-- a strand's wear -/
def T.wr (t : T) (n : Str) : Int := ((t.leaves.find? fun l => decide (l.1 = n)).map fun l => l.2.2).getD 0
theorem pw_succ (t : T) (m : Nat) (n : Str) : t.pw ((m + 1 : Nat)) n = t.pw (m : Nat) n - t.wr n := by
  unfold T.pw T.wr
  cases t.leaves.find? fun l => decide (l.1 = n) with
  | none => rfl
  | some l =>
    show l.2.1 - ((m + 1 : Nat) : Int) * l.2.2 = l.2.1 - ((m : Nat) : Int) * l.2.2 - l.2.2
    have e : ((m + 1 : Nat) : Int) * l.2.2 = ((m : Nat) : Int) * l.2.2 + l.2.2 := by
      rw [Int.natCast_add, Int.add_mul]
      simp
    omega
theorem wr_leaf {t : T} (nd : t.names.Nodup) {l : Str × Int × Int} (hl : l ∈ t.leaves) : t.wr l.1 = l.2.2 := by
  unfold T.wr
  rw [find_leaf nd hl]
  rfl
/-- the wears, as a dict -/
def T.wears (t : T) : List (L2.Key × V) := t.leaves.map fun l => (Sum.inr l.1, .int l.2.2)
theorem wears_keys (t : T) : t.wears.map (·.1) = t.names.map Sum.inr := by
  unfold T.wears T.names
  rw [List.map_map, List.map_map]
  rfl
theorem wears_val {t : T} (nd : t.names.Nodup) {n : Str} (h : n ∈ t.names) : valV t.wears (Sum.inr n) = some (.int (t.wr n)) := by
  obtain ⟨l, hl, rfl⟩ := List.mem_map.mp h
  obtain ⟨i, hi, e⟩ := List.getElem_of_mem hl
  refine val_at (i := i) (by rw [wears_keys]; exact inr_nd nd) ?_
  unfold T.wears
  rw [List.getElem?_map, List.getElem?_eq_getElem hi, e, wr_leaf nd hl]
  rfl
/-- names as data -/
theorem shp_strs {t : T} (sok : ∀ n ∈ t.names, PyData.strOk n = true) {N : List Str} (h : ∀ n ∈ N, n ∈ t.names) : ∀ d ∈ N.map PyData.str, Shp 0 d := fun d hd => by
  obtain ⟨n, hn, rfl⟩ := List.mem_map.mp hd
  exact shp_str (sok n (h n hn))
theorem exD_strs (N : List Str) : exD (.list (N.map .str)) = true := by
  unfold exD
  rw [exDL_all]
  intro d hd
  obtain ⟨x, _, rfl⟩ := List.mem_map.mp hd
  rfl
theorem str_inj {N N' : List Str} : N.map PyData.str = N'.map PyData.str ↔ N = N' := by
  constructor
  · intro h
    exact (List.map_inj_right (fun a b e => PyData.str.inj e)).mp h
  · intro h
    rw [h]
/-- which of the names hold, if exactly these remain -/
def T.good (t : T) (pw : Str → Int) (L : Int) (N : List Str) : List Str := N.filter fun n => decide (L ≤ pw n * t.dv (inL N) n)
theorem good_holds {t : T} {pw : Str → Int} {L : Int} {N : List Str} (nd : t.names.Nodup) (h : t.good pw L N = N) : Holds t pw L (inL N) := by
  rw [holds_dv nd]
  intro n hn hs
  have z : n ∈ t.good pw L N := by rw [h]; exact of_decide_eq_true hs
  exact of_decide_eq_true (List.mem_filter.mp z).2
theorem good_most {t : T} {pw : Str → Int} {L : Int} {N : List Str} (nd : t.names.Nodup) (h1 : 1 ≤ L) {R : Str → Bool} (hR : Holds t pw L R) (ha : Sub R t.all) (hs : Sub R (inL N)) : Sub R (inL (t.good pw L N)) := fun n hn => by
  have z := holds_step nd h1 hR (fun m hm => T.all_iff.mp (ha m hm)) hs n hn
  exact decide_eq_true (List.mem_filter.mpr ⟨of_decide_eq_true (hs n hn), decide_eq_true ((whole_dv nd (T.all_iff.mp (ha n hn)) (hs n hn)).mp z)⟩)
end Wr

set_option Elab.async false
set_option linter.all false
set_option maxRecDepth 100000
set_option maxHeartbeats 2000000
namespace Wr
open PySem PySem.Spec PyProof.Rows L2
/-! ### the log, as data -/
theorem le_pow2 : ∀ j : Nat, 1 ≤ j → j ≤ 2 ^ (j - 1)
  | 1, _ => by decide
  | j + 2, _ => by
    have := le_pow2 (j + 1) (by omega)
    show j + 2 ≤ 2 ^ (j + 1)
    rw [Nat.pow_succ]
    simp only [Nat.add_sub_cancel] at this
    omega
def DvB (d : Dv) : Prop := ∀ x ∈ d, x.2 ≤ ((2 ^ (d.length - 1) : Nat) : Int)
theorem flat_len {p : Dv} : ∀ (qs : List Dv) (f : Str × Int → Str × Int), p ∈ qs → (∀ q ∈ qs, q ≠ []) → p.length + (qs.length - 1) ≤ (qs.flatMap fun p => p.map f).length
  | [], _, h, _ => by cases h
  | q :: r, f, h, hn => by
    rw [List.flatMap_cons, List.length_append, List.length_map, List.length_cons]
    have gen : ∀ r : List Dv, (∀ q ∈ r, q ≠ []) → r.length ≤ (r.flatMap fun p => p.map f).length := by
      intro r hr
      induction r with
      | nil => exact Nat.zero_le _
      | cons a b ih =>
        rw [List.flatMap_cons, List.length_append, List.length_map, List.length_cons]
        have := ih fun q hq => hr q (List.mem_cons_of_mem _ hq)
        have := List.length_pos_iff.mpr (hr a (List.mem_cons_self ..))
        omega
    rcases List.mem_cons.mp h with e | e
    · rw [e]
      have := gen r fun q hq => hn q (List.mem_cons_of_mem _ hq)
      omega
    · have := flat_len r f e fun q hq => hn q (List.mem_cons_of_mem _ hq)
      have := List.length_pos_iff.mpr (hn q (List.mem_cons_self ..))
      have : 0 < r.length := List.length_pos_of_mem e
      omega
theorem share_B {ps : List Dv} (h : ∀ p ∈ ps, DvB p) (hp : ∀ p ∈ ps, ∀ x ∈ p, 1 ≤ x.2) : DvB (share ps) := by
  intro x hx
  unfold share at hx ⊢
  generalize eq : (ps.filter fun p => !p.isEmpty) = qs at hx ⊢
  have hq : ∀ q ∈ qs, q ∈ ps ∧ q ≠ [] := fun q hq => by
    rw [← eq] at hq
    obtain ⟨h1, h2⟩ := List.mem_filter.mp hq
    exact ⟨h1, fun e => by rw [e] at h2; cases h2⟩
  obtain ⟨p, hpq, hx2⟩ := List.mem_flatMap.mp hx
  obtain ⟨y, hy, rfl⟩ := List.mem_map.mp hx2
  have f := flat_len qs (fun x => (x.1, x.2 * ((qs.length : Nat) : Int))) hpq fun q h => (hq q h).2
  have jp : 1 ≤ qs.length := List.length_pos_of_mem hpq
  have pl : 1 ≤ p.length := List.length_pos_iff.mpr (hq p hpq).2
  have b := h p (hq p hpq).1 y hy
  have b0 := hp p (hq p hpq).1 y hy
  have j2 := le_pow2 qs.length jp
  have m : 2 ^ (p.length - 1) * 2 ^ (qs.length - 1) ≤ 2 ^ ((qs.flatMap fun p => p.map fun x => (x.1, x.2 * ((qs.length : Nat) : Int))).length - 1) := by
    rw [← Nat.pow_add]
    exact Nat.pow_le_pow_right (by decide) (by omega)
  obtain ⟨z, hz⟩ := Int.eq_ofNat_of_zero_le (show 0 ≤ y.2 by omega)
  rw [hz] at b ⊢
  have b : z ≤ 2 ^ (p.length - 1) := Int.ofNat_le.mp b
  show ((z : Nat) : Int) * ((qs.length : Nat) : Int) ≤ _
  rw [← Int.natCast_mul]
  exact Int.ofNat_le.mpr (Nat.le_trans (Nat.mul_le_mul b j2) m)
mutual
theorem T.div_B (S : Str → Bool) : ∀ t : T, DvB (t.div S)
  | .leaf n a b => fun x hx => by
    rw [T.div] at hx ⊢
    by_cases c : S n = true
    · rw [if_pos c] at hx ⊢
      rw [List.mem_singleton.mp hx]
      exact Int.le_refl 1
    · rw [if_neg c] at hx
      cases hx
  | .node ts => by
    rw [T.div]
    refine share_B (T.divL_B S ts) fun p hp x hx => ?_
    rw [T.divL_map] at hp
    obtain ⟨t, _, rfl⟩ := List.mem_map.mp hp
    exact T.div_pos S t x hx
theorem T.divL_B (S : Str → Bool) : ∀ ts : List T, ∀ p ∈ T.divL S ts, DvB p
  | [], p, h => by cases h
  | t :: r, p, h => by
    rw [T.divL] at h
    rcases List.mem_cons.mp h with e | e
    · rw [e]
      exact T.div_B S t
    · exact T.divL_B S r p e
end
theorem dv_le {t : T} {S : Str → Bool} {n : Str} (h6 : t.leaves.length ≤ 6) (h1 : n ∈ t.names) (h2 : S n = true) : t.dv S n ≤ 32 := by
  have b := T.div_B S t _ (dv_mem h1 h2)
  have e : (t.div S).length ≤ 6 := by
    rw [← List.length_map (f := (·.1)), T.div_keys]
    have : (t.names.filter S).length ≤ t.names.length := List.length_filter_le _ _
    have : t.names.length = t.leaves.length := List.length_map _
    omega
  have : 2 ^ ((t.div S).length - 1) ≤ 2 ^ 5 := Nat.pow_le_pow_right (by decide) (by omega)
  have : ((2 ^ ((t.div S).length - 1) : Nat) : Int) ≤ ((2 ^ 5 : Nat) : Int) := Int.ofNat_le.mpr this
  have z : ((2 ^ 5 : Nat) : Int) = 32 := by decide
  omega
instance (a b : Str) : Decidable (LeS a b) := by unfold LeS; infer_instance
def srt (l : List Str) : List Str := l.mergeSort fun a b => decide (LeS a b)
theorem srt_perm (l : List Str) : (srt l).Perm l := List.mergeSort_perm l _
theorem srt_asc (l : List Str) : Asc (srt l) := by
  have h := List.pairwise_mergeSort (le := fun a b => decide (LeS a b)) (fun a b c h1 h2 => decide_eq_true (LeS.trans (of_decide_eq_true h1) (of_decide_eq_true h2)))
    (fun a b => by
      by_cases c : LeS a b
      · simp [c]
      · have : LeS b a := fun z => c fun y => List.lt_asymm z y
        simp [this]) l
  exact h.imp fun z => of_decide_eq_true z
theorem srt_is {l l' : List Str} (p : l'.Perm l) (h : Asc l') : l' = srt l := asc_uniq (p.trans (srt_perm l).symm) h (srt_asc l)
theorem srt_filter (l : List Str) (f : Str → Bool) : (srt l).filter f = srt (l.filter f) := srt_is ((srt_perm l).filter f) ((srt_asc l).filter f)
def lowD (a b : Int) : List Int := [a / (Int.gcd a b : Int), b / (Int.gcd a b : Int)]
noncomputable def brk (t : T) (Ls : List Int) (i : Nat) : List Str := (srt (t.names.filter (t.left (Ls.take i)))).filter fun n => !t.left (Ls.take (i + 1)) n
def carD (L : Int) (t : T) (S : Str → Bool) (n : Str) : PyData := .tuple [.str n, .tuple ((lowD L (t.dv S n)).map .int)]
noncomputable def logE (t : T) (Ls : List Int) (i : Nat) : PyData :=
  if (t.div (t.left (Ls.take (i + 1)))).isEmpty then subD (brk t Ls i)
  else .tuple [subD (brk t Ls i), .tuple ((srt (t.names.filter (t.left (Ls.take (i + 1))))).map (carD (Ls[i]?.getD 0) t (t.left (Ls.take (i + 1)))))]
noncomputable def logD (t : T) (Ls : List Int) (n : Nat) : List PyData := (List.range n).map (logE t Ls)
theorem logD_succ (t : T) (Ls : List Int) (n : Nat) : logD t Ls (n + 1) = logD t Ls n ++ [logE t Ls n] := by
  unfold logD
  rw [List.range_succ, List.map_append]
  rfl
theorem logD_len (t : T) (Ls : List Int) (n : Nat) : (logD t Ls n).length = n := by
  unfold logD
  rw [List.length_map, List.length_range]
theorem div_has {t : T} {S : Str → Bool} {n : Str} (nd : t.names.Nodup) (h : n ∈ t.names) : (valV (kvD (t.div S)) (Sum.inr n)).isSome = S n := by
  cases e : S n with
  | true =>
    rw [val_mem (div_nd nd) (dv_mem h e)]
    rfl
  | false =>
    rw [val_none]
    · rfl
    · rw [kvD_keys, T.div_keys]
      intro z
      obtain ⟨m, hm, em⟩ := List.mem_map.mp z
      cases em
      rw [(List.mem_filter.mp hm).2] at e
      cases e
theorem tupO_tup {ds : List PyData} (h : ∀ d ∈ ds, tupO d = true) : tupO (.tuple ds) = true := by
  unfold tupO
  exact tupOL_all.mpr h
theorem tupO_car (L : Int) (t : T) (S : Str → Bool) (n : Str) : tupO (carD L t S n) = true := rfl
theorem tupO_logE (t : T) (Ls : List Int) (i : Nat) : tupO (logE t Ls i) = true := by
  unfold logE
  split
  · exact tupO_sub _
  · refine tupO_tup fun d hd => ?_
    rcases List.mem_cons.mp hd with e | e
    · rw [e]
      exact tupO_sub _
    · rw [List.mem_singleton.mp e]
      refine tupO_tup fun d hd => ?_
      obtain ⟨n, _, rfl⟩ := List.mem_map.mp hd
      exact tupO_car ..
theorem tupOL_logD (t : T) (Ls : List Int) (n : Nat) : tupOL (logD t Ls n) = true := tupOL_all.mpr fun d hd => by
  unfold logD at hd
  obtain ⟨i, _, rfl⟩ := List.mem_map.mp hd
  exact tupO_logE ..
end Wr

set_option Elab.async false
set_option linter.all false
set_option maxRecDepth 100000
set_option maxHeartbeats 2000000
namespace Wr
open PySem PySem.Spec PyProof.Rows L2
/-! ### how often a load can be lifted -/
theorem ceil_iff {L d x : Int} (hd : 0 < d) : L ≤ x * d ↔ -((-L) / d) ≤ x := by
  have h := Int.le_ediv_iff_mul_le (a := -x) (b := -L) hd
  rw [Int.neg_mul] at h
  constructor
  · intro z
    have := h.mpr (by omega)
    omega
  · intro z
    have := h.mp (by omega)
    omega
/-- how often a strand can carry its share -/
def untilQ (s w d L : Int) : Int := (s - -((-L) / d)) / w + 1
theorem until_iff {s w d L : Int} (hd : 0 < d) (hw : 0 < w) (i : Int) : L ≤ (s - i * w) * d ↔ i < untilQ s w d L := by
  rw [ceil_iff hd]
  have h := Int.le_ediv_iff_mul_le (a := i) (b := s - -((-L) / d)) hw
  unfold untilQ
  constructor
  · intro z
    have := h.mpr (by omega)
    omega
  · intro z
    have := h.mp (by omega)
    omega
section
variable {t : T} {S : Str → Bool} {L : Int}
theorem pw_leaf0 (nd : t.names.Nodup) {l : Str × Int × Int} (hl : l ∈ t.leaves) (m : Int) : t.pw m l.1 = l.2.1 - m * l.2.2 := by
  unfold T.pw
  have nd : (t.leaves.map (·.1)).Nodup := nd
  generalize t.leaves = ls at hl nd
  induction ls with
  | nil => cases hl
  | cons x r ih =>
    rw [List.map_cons, List.nodup_cons] at nd
    rw [List.find?_cons]
    by_cases c : x.1 = l.1
    · rw [decide_eq_true c]
      rcases List.mem_cons.mp hl with e | e
      · rw [e]; rfl
      · exact absurd (List.mem_map.mpr ⟨l, e, c.symm⟩) nd.1
    · rw [decide_eq_false c]
      rcases List.mem_cons.mp hl with e | e
      · exact absurd (by rw [e]) c
      · exact ih e nd.2
theorem dvs_uniq (nd : t.names.Nodup) {n : Str} {d d' : Int} (h : (n, d) ∈ t.div S) (h' : (n, d') ∈ t.div S) : d = d' :=
  Int.le_antisymm (T.div_mono (fun _ z => z) t nd _ h _ h' rfl) (T.div_mono (fun _ z => z) t nd _ h' _ h rfl)
theorem holds_leaf (nd : t.names.Nodup) (m : Int) : Holds t (t.pw m) L S ↔ ∀ l ∈ t.leaves, S l.1 = true → ∀ d, (l.1, d) ∈ t.div S → L ≤ (l.2.1 - m * l.2.2) * d := by
  constructor
  · intro h l hl hs d hd
    obtain ⟨d', hd', hc⟩ := whole_iff.mp (h l.1 (List.mem_map.mpr ⟨l, hl, rfl⟩) hs)
    rw [dvs_uniq nd hd hd', ← pw_leaf0 nd hl]
    exact hc
  · intro h n hn hs
    obtain ⟨l, hl, rfl⟩ := List.mem_map.mp hn
    obtain ⟨d, hd⟩ := T.div_has hn hs
    refine whole_iff.mpr ⟨d, hd, ?_⟩
    rw [pw_leaf0 nd hl]
    exact h l hl hs d hd
structure Lim (t : T) (S : Str → Bool) (L m : Int) : Prop where
  all : ∀ l ∈ t.leaves, S l.1 = true → 0 < l.2.2 → ∀ d, (l.1, d) ∈ t.div S → m ≤ untilQ l.2.1 l.2.2 d L
  some : ∃ l ∈ t.leaves, S l.1 = true ∧ 0 < l.2.2 ∧ ∃ d, (l.1, d) ∈ t.div S ∧ untilQ l.2.1 l.2.2 d L = m
theorem lim_iff (nd : t.names.Nodup) (hw : LeafW t) {c m : Int} (h0 : Holds t (t.pw c) L S) (hm : Lim t S L m) (i : Int) : Holds t (t.pw i) L S ↔ i < m := by
  rw [holds_leaf nd] at h0 ⊢
  constructor
  · intro h
    obtain ⟨l, hl, hs, hw1, d, hd, e⟩ := hm.some
    rw [← e]
    have d1 : 1 ≤ d := T.div_pos S t _ hd
    exact (until_iff (show 0 < d by omega) hw1 i).mp (h l hl hs d hd)
  · intro hi l hl hs d hd
    rcases Int.lt_or_le 0 l.2.2 with c0 | c0
    · have := hm.all l hl hs c0 d hd
      have d1 : 1 ≤ d := T.div_pos S t _ hd
      exact (until_iff (show 0 < d by omega) c0 i).mpr (by omega)
    · have w0 : l.2.2 = 0 := Int.le_antisymm c0 (hw l hl)
      have := h0 l hl hs d hd
      rw [w0, Int.mul_zero] at this ⊢
      exact this
theorem no_lim (nd : t.names.Nodup) (hw : LeafW t) {c : Int} (h0 : Holds t (t.pw c) L S) (hm : ∀ l ∈ t.leaves, S l.1 = true → l.2.2 ≤ 0) (i : Int) : Holds t (t.pw i) L S := by
  rw [holds_leaf nd] at h0 ⊢
  intro l hl hs d hd
  have w0 : l.2.2 = 0 := Int.le_antisymm (hm l hl hs) (hw l hl)
  have := h0 l hl hs d hd
  rw [w0, Int.mul_zero] at this ⊢
  exact this
theorem left_rep (c : Nat) : t.left (List.replicate (c + 1) L) = t.best (t.pw (c : Nat)) L (t.left (List.replicate c L)) := by
  rw [List.replicate_succ', left_snoc, List.length_replicate]
theorem best_self {pw : Str → Int} (h1 : Sub S t.all) (h2 : Holds t pw L S) : t.best pw L S = S := Sub.eq best_sub (best_most h1 (Sub.refl _) h2)
theorem stay {c : Nat} (h : t.left (List.replicate (c + 1) L) = S) : ∀ m : Nat, (∀ i : Nat, c + 1 ≤ i → i < c + 1 + m → Holds t (t.pw (i : Nat)) L S) → t.left (List.replicate (c + 1 + m) L) = S
  | 0, _ => h
  | m + 1, hh => by
    have ih := stay h m fun i h1 h2 => hh i h1 (by omega)
    rw [show c + 1 + (m + 1) = c + 1 + m + 1 by omega, left_rep, ih]
    exact best_self (by rw [← h]; exact left_all _) (hh _ (by omega) (by omega))
end
def RepS (t : T) (L : Int) (c : Nat) : Prop := t.works (List.replicate c L) ∧ ¬ t.works (List.replicate (c + 1) L)
def RepN (t : T) (L : Int) : Prop := ∀ n, t.works (List.replicate n L)
theorem rep_less {t : T} {L : Int} {m n : Nat} (h : m ≤ n) (w : t.works (List.replicate n L)) : t.works (List.replicate m L) := by
  have := left_take_sub (t := t) (List.replicate n L) (i := m) (j := n) h
  rw [List.take_replicate, List.take_replicate, Nat.min_self, Nat.min_eq_left h] at this
  exact Some1.mono this w
theorem rep_none {t : T} {L : Int} {c : Nat} (nd : t.names.Nodup) (hw : LeafW t) (h1 : 1 ≤ L) (wk : t.works (List.replicate (c + 1) L)) (hm : ∀ l ∈ t.leaves, t.left (List.replicate (c + 1) L) l.1 = true → l.2.2 ≤ 0) : RepN t L := fun n => by
  have h0 : Holds t (t.pw (c : Nat)) L (t.left (List.replicate (c + 1) L)) := by rw [left_rep]; exact best_holds nd h1
  rcases Nat.lt_or_ge n (c + 1) with z | z
  · exact rep_less (Nat.le_of_lt z) wk
  · obtain ⟨m, rfl⟩ : ∃ m, n = c + 1 + m := ⟨n - (c + 1), by omega⟩
    have := stay (c := c) rfl m fun i _ _ => no_lim nd hw h0 hm (i : Nat)
    unfold T.works
    rw [this]
    exact wk
theorem rep_some {t : T} {L : Int} {c : Nat} {m : Int} (nd : t.names.Nodup) (hw : LeafW t) (h1 : 1 ≤ L) (hm : Lim t (t.left (List.replicate (c + 1) L)) L m) :
    (c : Int) < m ∧ t.left (List.replicate m.toNat L) = t.left (List.replicate (c + 1) L) ∧ t.left (List.replicate (m.toNat + 1) L) ≠ t.left (List.replicate (c + 1) L) ∧ Sub (t.left (List.replicate (m.toNat + 1) L)) (t.left (List.replicate (c + 1) L)) := by
  have h0 : Holds t (t.pw (c : Nat)) L (t.left (List.replicate (c + 1) L)) := by rw [left_rep]; exact best_holds nd h1
  have li := lim_iff nd hw h0 hm
  have cm : ((c : Nat) : Int) < m := (li _).mp h0
  obtain ⟨k, hk⟩ : ∃ k, m.toNat = c + 1 + k := ⟨m.toNat - (c + 1), by omega⟩
  have st := stay (c := c) rfl k fun i _ h2 => (li _).mpr (by omega)
  rw [← hk] at st
  refine ⟨cm, st, fun e => ?_, ?_⟩
  · have : Holds t (t.pw ((m.toNat : Nat) : Int)) L (t.left (List.replicate (m.toNat + 1) L)) := by rw [left_rep]; exact best_holds nd h1
    rw [e] at this
    have := (li _).mp this
    omega
  · rw [left_rep, st]
    exact best_sub
theorem fil_lt {ns : List Str} {A B : Str → Bool} (hs : Sub A B) (hn : ∀ n, B n = true → n ∈ ns) (ne : A ≠ B) : (ns.filter A).length < (ns.filter B).length := by
  have le : ∀ ns : List Str, (ns.filter A).length ≤ (ns.filter B).length := fun ns => by
    induction ns with
    | nil => exact Nat.le_refl _
    | cons x r ih =>
      rw [List.filter_cons, List.filter_cons]
      cases a : A x with
      | true => rw [hs x a]; simpa using ih
      | false =>
        cases B x with
        | true => simp; omega
        | false => simpa using ih
  have : ∃ n, B n = true ∧ A n = false := Classical.byContradiction fun z => ne (Sub.eq hs fun n hb => by
    cases a : A n with
    | true => rfl
    | false => exact absurd ⟨n, hb, a⟩ z)
  obtain ⟨n, hb, ha⟩ := this
  obtain ⟨xs, ys, e⟩ := List.append_of_mem (hn n hb)
  rw [e, List.filter_append, List.filter_append, List.filter_cons, List.filter_cons, hb, ha, List.length_append, List.length_append]
  have a := le xs
  have b := le ys
  simp
  omega
end Wr

set_option Elab.async false
set_option linter.all false
set_option maxRecDepth 100000
set_option maxHeartbeats 2000000
namespace Wr
open PySem PySem.Spec PyProof.Rows L2
/-! ### repeats -/
section
variable {P : Program} {w : World} {K : PySem.W.Frag} {mg : Str → Option Value} {base : Heap}
theorem leafD_sq {H : Hp} {v : V} {l : Str × Int × Int} (h : Dp K H v (leafD l)) : ∃ a, v = .ref a ∧ SqT K H a [.str l.1, .int l.2.1, .int l.2.2] := by
  unfold leafD leafT T.data at h
  cases h with
  | tup h r =>
    cases r with
    | cons r1 r =>
      cases r with
      | cons r2 r =>
        cases r with
        | cons r3 r =>
          cases r
          cases r1
          cases r2
          cases r3
          exact ⟨_, rfl, h⟩
theorem seq_while {c : TT} {tb u : TS} {D : Ends} {σ : L2.St} {H : Hp} (h : tWhile c tb { D with nx := u D } σ H) : tSeq (tWhile c tb) u D σ H := h
def untilV (l : Str × Int × Int) (d L : Int) : V := if l.2.2 ≤ 0 then .non else .int (untilQ l.2.1 l.2.2 d L)
def spUntil (K : PySem.W.Frag) : Sp := fun vs H Q _ => ∃ (a : Addr) (l : Str × Int × Int) (d L : Int), vs = [.ref a, .int d, .int L] ∧ SqT K H a [.str l.1, .int l.2.1, .int l.2.2] ∧ l.2.2 ≤ 1000000 ∧ 1 ≤ d ∧ d ≤ 1000000 ∧ Q (untilV l d L) H
theorem ok_until (G : Gx K mg) (k : Nat) : FnOk P w K mg base CX0 (k + 2) G.f_lifts_until_worn G.fd_lifts_until_worn ["strand", "divisor", "load"] (spUntil K) := by
  have G_least_strength := ok_leastS (P := P) (w := w) (base := base) G k
  refine G.F_lifts_until_worn.ok sc_lifts_until_worn (fun vs H Q E h => ?_) (fun cdv A outer s H vs Q E hr h => ?_)
  · obtain ⟨a, l, d, L, rfl, _⟩ := h
    rfl
  obtain ⟨a, l, d, L, rfl, ha, w2, d1, d2, q⟩ := h
  refine ⟨_, (pss_cons (ps_asg (pv 0) (pg_tup rfl (pgs_cons (pg_name (i := 3) sc_lifts_until_worn.nd rfl (.inl rfl)) (pgs_cons (pg_name (i := 4) sc_lifts_until_worn.nd rfl (.inl rfl)) (pgs_cons (pg_name (i := 5) sc_lifts_until_worn.nd rfl (.inl rfl)) pgs_nil)))))
    (pss_cons (ps_if (pt_cmpR op_le (pv 5) pe_int (nomark _)) (pss_one (ps_ret pe_non)) pss_nil)
    (pss_one (ps_ret (pe_op op_add (pe_op op_fdiv (pe_op op_sub (pv 4) (pe_call G_least_strength hr (by rfl) G.m_least_strength G.F_least_strength.kp G.b_least_strength .nil pass0 (pa_cons (pv 2) (pa_cons (pv 1) pa_nil)))) (pv 5)) pe_int))))), ?_⟩
  refine ⟨_, rfl, a, _, rfl, ha, rfl, _, _, rfl, _, _, rfl, _, _, rfl, rfl, ?_⟩
  refine ⟨_, rfl, _, _, rfl, rfl, _, rfl, ?_⟩
  unfold untilV at q
  by_cases c : l.2.2 ≤ 0
  · rw [if_pos c] at q
    rw [show decide (l.2.2 ≤ 0) = true from decide_eq_true c]
    exact iteT q
  · rw [if_neg c] at q
    rw [show decide (l.2.2 ≤ 0) = false from decide_eq_false c]
    refine iteF ?_
    exact ⟨_, rfl, _, rfl, _, rfl, L, d, rfl, d1, d2, _, _, rfl, rfl, _, rfl, _, _, rfl, rfl, ⟨by omega, by omega⟩, _, _, rfl, rfl, q⟩
theorem val_div {t : T} {S : Str → Bool} (nd : t.names.Nodup) {n : Str} (hn : n ∈ t.names) : valV (kvD (t.div S)) (Sum.inr n) = if S n = true then some (.int (t.dv S n)) else none := by
  by_cases c : S n = true
  · rw [if_pos c]
    exact val_mem (div_nd nd) (dv_mem hn c)
  · rw [if_neg c]
    refine val_none fun z => ?_
    rw [kvD_keys, T.div_keys] at z
    obtain ⟨m, hm, e⟩ := List.mem_map.mp z
    cases e
    exact c (List.mem_filter.mp hm).2
theorem dv_small {t : T} {S : Str → Bool} {n : Str} (h6 : t.leaves.length ≤ 6) (hn : n ∈ t.names) (hs : S n = true) : 1 ≤ t.dv S n ∧ t.dv S n ≤ 32 := by
  have hm := dv_mem hn hs
  have b := T.div_B S t _ hm
  have p := T.div_pos S t _ hm
  refine ⟨p, Int.le_trans b ?_⟩
  have e := congrArg List.length (T.div_keys S t)
  rw [List.length_map] at e
  have e2 : (t.names.filter S).length ≤ t.names.length := List.length_filter_le _ _
  have e3 : t.names.length = t.leaves.length := List.length_map _
  have : 2 ^ ((t.div S).length - 1) ≤ 2 ^ 5 := Nat.pow_le_pow_right (by decide) (by omega)
  have e5 : 2 ^ 5 = 32 := by decide
  omega
/-- what is left of the names after so many lifts -/
noncomputable abbrev lf (t : T) (L : Int) (c : Nat) : Str → Bool := t.left (List.replicate c L)
theorem inL_srt {t : T} {S : Str → Bool} {n : Str} (hn : n ∈ t.names) : inL (srt (t.names.filter S)) n = S n := by
  unfold inL
  rw [Bool.eq_iff_iff, decide_eq_true_iff, (srt_perm _).mem_iff, List.mem_filter]
  exact ⟨fun h => h.2, fun h => ⟨hn, h⟩⟩
theorem settled {t : T} {L : Int} {N S : Str → Bool} {c : Nat} (b : Best t (t.pw ((c : Nat) : Int)) L N S) (hN : ∀ n ∈ t.names, N n = lf t L c n) : t.div S = t.div (lf t L (c + 1)) := by
  refine T.div_congr t fun n hn => ?_
  show _ = t.left (List.replicate (c + 1) L) n
  rw [b.at n hn, left_rep, best_congr hN]
theorem until_le {s w d L : Int} (hL : 1 ≤ L) (hd : 1 ≤ d) (hw : 0 < w) (hs : 0 ≤ s) : untilQ s w d L ≤ s + 1 := by
  have h := (until_iff (s := s) (L := L) (show 0 < d by omega) hw (untilQ s w d L - 1)).mpr (by omega)
  rcases Int.lt_or_le (s + 1) (untilQ s w d L) with c | c
  · have a : (s + 1) * 1 ≤ (untilQ s w d L - 1) * w := Int.mul_le_mul (by omega) (by omega) (by decide) (by omega)
    have b : (s - (untilQ s w d L - 1) * w) * d ≤ 0 := Int.mul_nonpos_of_nonpos_of_nonneg (by omega) (by omega)
    omega
  · exact c
/-- the strands that remain, and those of them that wear out -/
noncomputable def rem1 (t : T) (S : Str → Bool) (i : Nat) : List (Str × Int × Int) := (t.leaves.take i).filter fun l => S l.1
def worn (ls : List (Str × Int × Int)) : List (Str × Int × Int) := ls.filter fun l => decide (0 < l.2.2)
def qOf (t : T) (S : Str → Bool) (L : Int) (l : Str × Int × Int) : Int := untilQ l.2.1 l.2.2 (t.dv S l.1) L
theorem worn_lim {t : T} {S : Str → Bool} {L m : Int} (nd : t.names.Nodup) (hm : m ∈ (worn (rem1 t S t.leaves.length)).map (qOf t S L)) (hmin : ∀ y ∈ (worn (rem1 t S t.leaves.length)).map (qOf t S L), m ≤ y) : Lim t S L m := by
  unfold rem1 at hm hmin
  rw [List.take_length] at hm hmin
  refine ⟨fun l hl hs hw d hd => ?_, ?_⟩
  · have e : d = t.dv S l.1 := dvs_uniq nd hd (dv_mem (List.mem_map.mpr ⟨l, hl, rfl⟩) hs)
    rw [e]
    exact hmin _ (List.mem_map.mpr ⟨l, List.mem_filter.mpr ⟨List.mem_filter.mpr ⟨hl, hs⟩, decide_eq_true hw⟩, rfl⟩)
  · obtain ⟨l, hl, e⟩ := List.mem_map.mp hm
    obtain ⟨h1, h2⟩ := List.mem_filter.mp hl
    obtain ⟨h3, h4⟩ := List.mem_filter.mp h1
    exact ⟨l, h3, h4, of_decide_eq_true h2, t.dv S l.1, dv_mem (List.mem_map.mpr ⟨l, h3, rfl⟩) h4, e⟩
theorem worn_none {t : T} {S : Str → Bool} {L : Int} (h : (worn (rem1 t S t.leaves.length)).map (qOf t S L) = []) : ∀ l ∈ t.leaves, S l.1 = true → l.2.2 ≤ 0 := fun l hl hs => by
  unfold rem1 at h
  rw [List.take_length] at h
  have h := List.map_eq_nil_iff.mp h
  rcases Int.lt_or_le 0 l.2.2 with c | c
  · have : l ∈ worn (t.leaves.filter fun l => S l.1) := List.mem_filter.mpr ⟨List.mem_filter.mpr ⟨hl, hs⟩, decide_eq_true c⟩
    rw [h] at this
    cases this
  · exact c
def spRep (K : PySem.W.Frag) (B : Addr) : Sp := fun vs H Q _ => ∃ (v : V) (t : T) (L : Int), vs = [v, .int L] ∧ RigAt K H v t ∧ 1 ≤ L ∧ GxR.TabG H B ∧
  (∀ (p b : Addr) (c : Nat) (H' : Hp), Le H H' → RepN t L → t.works (List.replicate (c + 1) L) → (∀ l ∈ t.leaves, lf t L (c + 1) l.1 = true → l.2.2 ≤ 0) → SqT K H' b ((srt (t.names.filter (lf t L (c + 1)))).map V.str) → SqT K H' p [.non, .ref b] → Q (.ref p) H') ∧
  ∀ (p b : Addr) (c : Nat) (H' : Hp), Le H H' → RepS t L c → (c = 0 ∨ SqT K H' b ((srt (t.names.filter (lf t L c))).map V.str)) → SqT K H' p [.int (c : Nat), .ref b] → Q (.ref p) H'
theorem ok_rep (G : Gx K mg) (TN : GxR.TabB base mg G.c_strand_names G.p_strand_names) (k : Nat) : FnOk P w K mg base CX0 (k + 15) G.f_repeats G.fd_repeats ["rig", "load"] (spRep K G.p_strand_names) := by
  have G_strand_names := (ok_names (P := P) (w := w) (base := base) G TN k 6).mono (show 6 + k + 8 ≤ k + 14 by omega)
  have G_settle := (ok_settle (P := P) (w := w) (base := base) G (k + 5) 6).mono (show 6 + (k + 5) + 3 ≤ k + 14 by omega)
  have G_strands := (ok_strands (P := P) (w := w) (base := base) G (k + 7) 6).mono (show 6 + (k + 7) + 1 ≤ k + 14 by omega)
  have G_lifts_until_worn := ok_until (P := P) (w := w) (base := base) G (k + 12)
  refine G.F_repeats.ok sc_repeats (fun vs H Q E h => ?_) (fun cdv A outer s H vs Q E hr h => ?_)
  · obtain ⟨v, t, L, rfl, _⟩ := h
    rfl
  obtain ⟨v, t, L, rfl, hR, hL, hT, q1, q2⟩ := h
  have hr : Room (k + 14) _ := hr
  have hw : LeafW t := hR.lb.w
  refine ⟨_, (pss_cons (ps_asg (pe_tup (pa_cons pe_int (pa_cons (pe_tup pa_nil) pa_nil))) (pg_tup rfl (pgs_cons (pg_name (i := 2) sc_repeats.nd rfl (.inl rfl)) (pgs_cons (pg_name (i := 3) sc_repeats.nd rfl (.inl rfl)) pgs_nil))))
    (pss_cons (ps_set (i := 4) sc_repeats.nd rfl (.inr rfl) (pe_call G_settle hr (by rfl) G.m_settle G.F_settle.kp G.b_settle .nil pass0 (pa_cons (pv 0) (pa_cons (pe_call G_strand_names hr (by rfl) G.m_strand_names G.F_strand_names.kp G.b_strand_names .nil pass0 (pa_cons (pv 0) pa_nil)) (pa_cons (pv 1) (pa_cons pe_int pa_nil))))))
    (pss_cons (ps_while PassesOwn.never (pt_truthR (pv 4) D2.tru_rd (by intro _; rfl)) (pss_cons (ps_set (i := 3) sc_repeats.nd rfl (.inl rfl) (pe_callTy call_tuple_of (by rfl) G.tuple (by decide +kernel) (pa_cons (pe_callB (call_sortedD rfl) (by rfl) G.sorted (by decide +kernel) (pa_cons (pv 4) pa_nil)) pa_nil)))
    (pss_cons (ps_setLc (i := 5) (own := [("strand", 7)]) (g := gName 7) (by rfl) sc_repeats.nd rfl rfl (sw_true rfl rfl rfl (by decide +kernel)) (pi_list (pe_call G_strands hr (by rfl) G.m_strands G.F_strands.kp G.b_strands .nil pass0 (pa_cons (pv 0) pa_nil))) (blkOk_by (own := [("strand", 7)]) (N := N_repeats) (sc := defScope s_repeats) (by decide +kernel)) (fun _ _ _ _ _ => (pg_name (i := 7) sc_repeats.nd rfl (.inl rfl) (.inr rfl))) (fun _ _ _ _ _ => (pts_one (pt_cmp (pc_din (hu1 hr) (pe_ix (r := rIxT K) ix_tup (pv 7) pe_int (fun _ _ => rfl)) (pv 4))))) (fun _ _ _ _ _ => (pe_call G_lifts_until_worn hr (by rfl) G.m_lifts_until_worn G.F_lifts_until_worn.kp G.b_lifts_until_worn .nil pass0 (pa_cons (pv 7) (pa_cons (pe_dget (hu1 hr) (pv 4) (pe_ix (r := rIxT K) ix_tup (pv 7) pe_int (fun _ _ => rfl)) (fun _ _ => rfl)) (pa_cons (pv 1) pa_nil))))))
    (pss_cons (ps_setLc (i := 6) (own := [("limit", 8)]) (g := gName 8) (by rfl) sc_repeats.nd rfl rfl (sw_true rfl rfl rfl (by decide +kernel)) (pi_list (pv 5)) (blkOk_by (own := [("limit", 8)]) (N := N_repeats) (sc := defScope s_repeats) (by decide +kernel)) (fun _ _ _ _ _ => (pg_name (i := 8) sc_repeats.nd rfl (.inl rfl) (.inr rfl))) (fun _ _ _ _ _ => (pts_one (pt_cmpR op_notN (pv 8) pe_non (nomark _)))) (fun _ _ _ _ _ => (pv 8)))
    (pss_cons (ps_if (pt_not (pt_truth (pv 6) (by intro _; rfl))) (pss_one (ps_ret (pe_tup (pa_cons pe_non (pa_cons (pv 3) pa_nil))))) pss_nil)
    (pss_cons (ps_set (i := 2) sc_repeats.nd rfl (.inl rfl) (pe_callB (cr_min rfl) (by rfl) G.min (by decide +kernel) (pa_cons (pv 6) pa_nil)))
    (pss_one (ps_set (i := 4) sc_repeats.nd rfl (.inr rfl) (pe_call G_settle hr (by rfl) G.m_settle G.F_settle.kp G.b_settle .nil pass0 (pa_cons (pv 0) (pa_cons (pv 3) (pa_cons (pv 1) (pa_cons (pv 2) pa_nil)))))))))))))
    (pss_one (ps_ret (pe_tup (pa_cons (pv 2) (pa_cons (pv 3) pa_nil)))))))), ?_⟩
  refine ⟨Nat.zero_le _, fun pe hpe => ⟨(by decide : 2 ≤ sizeLine), fun pe2 hpe2 => ?_⟩⟩
  have l0 := (Le.new (o := .tup []) hpe).trans (Le.new (o := .tup [.int 0, .ref pe]) hpe2)
  refine ⟨pe2, _, rfl, sqt upd_same, rfl, _, _, rfl, _, _, rfl, rfl, ?_⟩
  generalize upd (upd H pe (.tup [])) pe2 (.tup [.int 0, .ref pe]) = H0 at l0
  refine ⟨_, rfl, _, rfl, v, t, H, rfl, l0, hR.dp, hR.ok, hR.len, by decide, l0.tab _ hT, fun pn ks H1 l1 hpn kn pks sks => ?_⟩
  have eks := srt_is pks (sorted_asc sks)
  subst eks
  have l01 := l0.trans l1
  refine ⟨_, rfl, v, t, H, pn, srt t.names, L, 0, rfl, l01, hR.dp, .inr (sqt kn), hR.ok, hR.len, by decide, hR.nd, hR.lb, hL, by decide, by decide, fun p2 od2 S2 H2 l2 hp2 h2 best2 => ?_⟩
  have e2 : t.div S2 = t.div (lf t L 1) := settled (c := 0) best2 fun n hn => by
    have a : inL (srt t.names) n = true := by
      unfold inL
      exact decide_eq_true ((srt_perm _).mem_iff.mpr hn)
    rw [a]
    exact (T.all_iff.mpr hn).symm
  rw [e2] at h2
  have nl : t.names.length = t.leaves.length := List.length_map _
  have h6 := hR.len
  dsimp only [gName]
  refine seq_while ?_
  refine while_by (fun σ2 H3 => ∃ (ci : Int) (c : Nat) (b p : Addr) (od : Obj) (z5 z6 : Option V), σ2 = [some v, some (.int L), some (.int ci), some (.ref b), some (.ref p), z5, z6, none, none] ∧ ci = (c : Nat) ∧ Le H H3 ∧ H3 p = some (.frz od (.dK (kvD (t.div (lf t L (c + 1)))))) ∧ t.works (List.replicate c L) ∧ (c = 0 ∨ SqT K H3 b ((srt (t.names.filter (lf t L c))).map V.str)))
    (fun σ2 _ => match σ2 with | _ :: _ :: some (.int c) :: _ => (t.names.filter (lf t L (c.toNat + 1))).length | _ => 0) ⟨0, 0, pe, p2, od2, _, _, rfl, rfl, l01.trans l2, h2, some_all hR.ok, .inl rfl⟩ ?_ ?_
  · rintro σ2 H3 ⟨ci, c, b, p, od, z5, z6, rfl, rfl, l3, hp, wk, hbn⟩
    refine ⟨_, rfl, p, _, rfl, .inr ⟨od, hp⟩, ?_⟩
    rw [kvD_empty]
    cases he : (t.div (lf t L (c + 1))).isEmpty with
    | true =>
      have nw : ¬ t.works (List.replicate (c + 1) L) := (div_none (left_all _)).mp he
      refine iteF ?_
      refine ⟨_, rfl, _, rfl, (by decide : 2 ≤ sizeLine), fun pr hpr => ?_⟩
      exact q2 pr b c _ (l3.trans (Le.new hpr)) ⟨wk, nw⟩ (hbn.imp id fun z => (Le.new hpr).sqt z) (sqt upd_same)
    | false =>
      have wk1 : t.works (List.replicate (c + 1) L) := Classical.byContradiction fun z => by
        rw [(div_none (left_all _)).mpr z] at he
        cases he
      refine iteT ?_
      generalize hS : lf t L (c + 1) = S at hp he
      have fl : (t.names.filter S).length ≤ t.names.length := List.length_filter_le _ _
      refine ⟨_, rfl, p, _, t.names.filter S, rfl, .inr ⟨od, hp⟩, by rw [kvD_keys, T.div_keys], by omega, fun zs p9 pz sz hp9 => ?_⟩
      have ez := srt_is pz (sorted_asc sz)
      subst ez
      refine ⟨p9, _, rfl, .inl ⟨sql upd_same, fun p10 hp10 => ?_⟩⟩
      have l4 := (Le.new (o := .lst ((srt (t.names.filter S)).map V.str)) hp9).trans (Le.new (o := .tup ((srt (t.names.filter S)).map V.str)) hp10)
      have k10 : upd (upd H3 p9 (.lst ((srt (t.names.filter S)).map V.str))) p10 (.tup ((srt (t.names.filter S)).map V.str)) p10 = some (.tup ((srt (t.names.filter S)).map V.str)) := upd_same
      generalize upd (upd H3 p9 (.lst ((srt (t.names.filter S)).map V.str))) p10 (.tup ((srt (t.names.filter S)).map V.str)) = H4 at l4 k10
      have l04 := l3.trans l4
      have hp4 := l4.frz hp
      -- counts
      refine ⟨_, rfl, v, t, H, rfl, l04, hR.dp, hR.ok, hR.len, by decide, fun pf us H5 l5 hpf kf df => ?_⟩
      have ul := dpAll_length df
      rw [List.length_map] at ul
      have hp5 := l5.frz hp4
      refine ⟨pf, rfl, ⟨us, sql kf⟩, fun D hD => ?_⟩
      refine lc_list (xs := us) (fun m Hm => Le H5 Hm ∧ Hm D = some (.lst ((rem1 t S m).map fun l => untilV l (t.dv S l.1) L))) ⟨Le.new hD, upd_same⟩ (fun m Hm _ ⟨lm, _⟩ => sql (lm.lst kf)) ?_ ?_
      · rintro m x Hm hx ⟨lm, hDm⟩
        obtain ⟨d, hdi, hdx⟩ := dpAll_getV df hx
        rw [List.getElem?_map] at hdi
        cases hl : t.leaves[m]? with
        | none => rw [hl] at hdi; cases hdi
        | some l =>
          rw [hl] at hdi
          cases hdi
          obtain ⟨a, rfl, ha⟩ := leafD_sq hdx
          have ha2 := (l04.trans (l5.trans lm)).sqt ha
          have hlm := List.mem_of_getElem? hl
          have hln : l.1 ∈ t.names := List.mem_map.mpr ⟨l, hlm, rfl⟩
          have rs : rem1 t S (m + 1) = rem1 t S m ++ [l].filter fun l => S l.1 := by
            unfold rem1
            rw [List.take_succ, hl, List.filter_append]
            rfl
          have rl : (rem1 t S m).length ≤ 6 := Nat.le_trans (List.length_filter_le _ _) (by rw [List.length_take]; omega)
          have hpm := lm.frz hp5
          refine ⟨rfl, ?_⟩
          refine ⟨_, rfl, a, _, 0, _, rfl, rfl, ha2, rfl, _, rfl, p, _, rfl, .inl ⟨_, Sum.inr l.1, .inr ⟨od, hpm⟩, rfl, rfl⟩, _, rfl, ?_⟩
          rw [val_div hR.nd hln]
          by_cases cs : S l.1 = true
          · rw [if_pos cs]
            obtain ⟨v1, v2⟩ := dv_small hR.len hln cs
            have lbw := (hR.lb l hlm).2.2.2
            refine iteT ⟨_, rfl, _, rfl, _, rfl, a, _, 0, _, rfl, rfl, ha2, rfl, p, .int (t.dv S l.1), rfl, .inl ⟨_, Sum.inr l.1, .inr ⟨od, hpm⟩, rfl, by rw [val_div hR.nd hln, if_pos cs]⟩, _, rfl, a, l, t.dv S l.1, L, rfl, ha2, by omega, v1, by omega, _, hDm, szlt (by rw [List.length_map]; omega), lm.mut hD, ?_⟩
            rw [upd_same, rs, List.filter_cons, if_pos cs, List.filter_nil, List.map_append]
            rfl
          · rw [if_neg cs]
            refine iteF ⟨lm, ?_⟩
            rw [rs, List.filter_cons, if_neg cs, List.filter_nil, List.append_nil]
            exact hDm
      rintro H6 ⟨l6, hD6⟩
      rw [ul] at hD6
      have rl : (rem1 t S t.leaves.length).length ≤ 6 := Nat.le_trans (List.length_filter_le _ _) (by rw [List.length_take]; omega)
      have l56 := l5.trans l6
      have rmem : ∀ l ∈ rem1 t S t.leaves.length, l ∈ t.leaves ∧ S l.1 = true := fun l hl => by
        obtain ⟨h1, h2⟩ := List.mem_filter.mp hl
        exact ⟨List.mem_of_mem_take h1, h2⟩
      have wlim := fun (m : Int) => worn_lim (t := t) (S := S) (L := L) (m := m) hR.nd
      have wnone := worn_none (t := t) (S := S) (L := L)
      generalize rem1 t S t.leaves.length = ls at hD6 rl rmem wlim wnone
      -- limits
      refine ⟨_, rfl, D, rfl, ⟨_, sql hD6⟩, fun D2 hD2 => ?_⟩
      refine lc_list (xs := ls.map fun l => untilV l (t.dv S l.1) L) (fun m Hm => Le H6 Hm ∧ Hm D2 = some (.lst (((worn (ls.take m)).map (qOf t S L)).map V.int))) ⟨Le.new hD2, upd_same⟩ (fun m Hm _ ⟨lm, _⟩ => sql (lm.lst hD6)) ?_ ?_
      · rintro m x Hm hx ⟨lm, hDm⟩
        rw [List.getElem?_map] at hx
        cases hl : ls[m]? with
        | none => rw [hl] at hx; cases hx
        | some l =>
          rw [hl] at hx
          obtain rfl : untilV l (t.dv S l.1) L = x := Option.some.inj hx
          have ws : worn (ls.take (m + 1)) = worn (ls.take m) ++ worn [l] := by
            unfold worn
            rw [List.take_succ, hl, List.filter_append]
            rfl
          have wl : (worn (ls.take m)).length ≤ 6 := Nat.le_trans (List.length_filter_le _ _) (by rw [List.length_take]; omega)
          refine ⟨rfl, ?_⟩
          refine ⟨_, rfl, rfl, _, rfl, ?_⟩
          by_cases c0 : l.2.2 ≤ 0
          · rw [show untilV l (t.dv S l.1) L = .non from if_pos c0, show (!decide (V.non = V.non)) = false by decide]
            refine iteF ⟨lm, ?_⟩
            rw [ws, show worn [l] = [] by unfold worn; rw [List.filter_cons, if_neg (by rw [decide_eq_false (by omega)]; decide), List.filter_nil], List.append_nil]
            exact hDm
          · have eu : untilV l (t.dv S l.1) L = .int (qOf t S L l) := if_neg c0
            rw [eu, show (!decide (V.int (qOf t S L l) = V.non)) = true by simp]
            refine iteT ⟨_, rfl, _, hDm, szlt (by rw [List.length_map, List.length_map]; omega), lm.mut hD2, ?_⟩
            rw [upd_same, ws, show worn [l] = [l] by unfold worn; rw [List.filter_cons, if_pos (decide_eq_true (by omega)), List.filter_nil], List.map_append, List.map_append]
            rfl
      rintro H7 ⟨l7, hD7⟩
      rw [List.length_map, List.take_length] at hD7
      have l07 := l04.trans (l56.trans l7)
      have l47 := l56.trans l7
      refine ⟨_, rfl, _, .inl ⟨_, sql hD7, rfl⟩, ?_⟩
      cases hq : (worn ls).map (qOf t S L) with
      | nil =>
        rw [hq] at hD7
        refine iteT ?_
        refine ⟨_, rfl, (by decide : 2 ≤ sizeLine), fun pr hpr => ?_⟩
        have hm0 : ∀ l ∈ t.leaves, lf t L (c + 1) l.1 = true → l.2.2 ≤ 0 := fun l hl hs => wnone hq l hl (by rw [← hS]; exact hs)
        refine q1 pr p10 c _ (l07.trans (Le.new hpr)) (rep_none (c := c) hR.nd hw hL wk1 hm0) wk1 hm0 ?_ (sqt upd_same)
        rw [hS]
        exact (l47.trans (Le.new hpr)).sqt (sqt k10)
      | cons q0 qr =>
        refine iteF ?_
        refine ⟨_, rfl, D2, (worn ls).map (qOf t S L), rfl, sql hD7, by rw [hq]; exact Nat.succ_pos _, fun m hm hmin => ?_⟩
        have lim := wlim m hm hmin
        rw [← hS] at lim
        obtain ⟨cm, st, ne, sb⟩ := rep_some (c := c) hR.nd hw hL lim
        have mub : m ≤ 100001 := by
          obtain ⟨l, hl, e⟩ := List.mem_map.mp hm
          obtain ⟨h1, h2⟩ := List.mem_filter.mp hl
          obtain ⟨h3, h4⟩ := rmem l h1
          obtain ⟨b1, b2, b3, b4⟩ := hR.lb l h3
          have := until_le (s := l.2.1) (d := t.dv S l.1) hL (dv_small hR.len (List.mem_map.mpr ⟨l, h3, rfl⟩) h4).1 (of_decide_eq_true h2) b1
          rw [← e]
          unfold qOf
          omega
        have em : ((m.toNat : Nat) : Int) = m := by omega
        refine ⟨_, rfl, _, rfl, _, rfl, _, rfl, v, t, H, p10, srt (t.names.filter S), L, m, rfl, l07, hR.dp, .inr (sqt (l47.tup k10)), hR.ok, hR.len, by decide, hR.nd, hR.lb, hL, by omega, by omega, fun p8 od8 S8 H8 l8 hp8 h8 best8 => ?_⟩
        rw [← em] at best8
        have e8 : t.div S8 = t.div (lf t L (m.toNat + 1)) := settled best8 fun n hn => by
          rw [inL_srt hn, ← hS]
          exact (congrFun st n).symm
        rw [e8] at h8
        refine ⟨⟨m, m.toNat, p10, p8, od8, _, _, rfl, em.symm, l07.trans l8, h8, ?_, .inr ?_⟩, ?_⟩
        · unfold T.works
          rw [st]
          exact wk1
        · show SqT K H8 p10 ((srt (t.names.filter (t.left (List.replicate m.toNat L)))).map V.str)
          rw [st, show t.left (List.replicate (c + 1) L) = S from hS]
          exact (l47.trans l8).sqt (sqt k10)
        · show (t.names.filter (lf t L (m.toNat + 1))).length < (t.names.filter (lf t L (((c : Nat) : Int).toNat + 1))).length
          rw [show (((c : Nat) : Int).toNat) = c from Int.toNat_natCast c]
          exact fil_lt sb (fun n h => T.all_iff.mp (left_all _ n h)) ne
  · rintro σ2 H2 Q1 Q2 h12 ⟨x, hx, y, z, e1, e2, q⟩
    exact ⟨x, hx, y, z, e1, e2, h12 _ _ q⟩
def spRC (K : PySem.W.Frag) (B : Addr) : Sp := fun vs H Q _ => ∃ (v : V) (t : T) (L : Int), vs = [v, .int L] ∧ RigAt K H v t ∧ 1 ≤ L ∧ GxR.TabG H B ∧
  (∀ (H' : Hp), Le H H' → RepN t L → Q .non H') ∧ ∀ (c : Nat) (H' : Hp), Le H H' → RepS t L c → Q (.int (c : Nat)) H'
theorem ok_rc (G : Gx K mg) (TN : GxR.TabB base mg G.c_strand_names G.p_strand_names) (k : Nat) : FnOk P w K mg base CX0 (k + 16) G.f_repeat_count G.fd_repeat_count ["rig", "load"] (spRC K G.p_strand_names) := by
  have G_repeats := ok_rep (P := P) (w := w) (base := base) G TN k
  refine G.F_repeat_count.ok sc_repeat_count (fun vs H Q E h => ?_) (fun cdv A outer s H vs Q E hr h => ?_)
  · obtain ⟨v, t, L, rfl, _⟩ := h
    rfl
  obtain ⟨v, t, L, rfl, hR, hL, hT, q1, q2⟩ := h
  have hr : Room (k + 15) _ := hr
  refine ⟨_, (pss_cons (ps_asg (pe_call G_repeats hr (by rfl) G.m_repeats G.F_repeats.kp G.b_repeats .nil pass0 (pa_cons (pv 0) (pa_cons (pv 1) pa_nil))) (pg_tup rfl (pgs_cons (pg_name (i := 2) sc_repeat_count.nd rfl (.inl rfl)) (pgs_cons (pg_name (i := 3) sc_repeat_count.nd rfl (.inl rfl)) pgs_nil))))
    (pss_one (ps_ret (pv 2)))), ?_⟩
  exact ⟨_, rfl, _, rfl, v, t, L, rfl, hR, hL, hT, fun p b c H' l' rn _ _ _ sq => ⟨p, _, rfl, sq, rfl, _, _, rfl, _, _, rfl, rfl, _, rfl, q1 H' l' rn⟩, fun p b c H' l' rs _ sq => ⟨p, _, rfl, sq, rfl, _, _, rfl, _, _, rfl, rfl, _, rfl, q2 c H' l' rs⟩⟩
end
end Wr

set_option Elab.async false
set_option linter.all false
set_option maxRecDepth 100000
set_option maxHeartbeats 2000000
namespace Wr
open PySem PySem.Spec PyProof.Rows L2
/-! ### the repeat count as a value -/
def RcAt (t : T) (L : Int) (x : V) : Prop := (x = .non ∧ RepN t L) ∨ ∃ c : Nat, x = .int (c : Nat) ∧ RepS t L c
theorem reps_uniq {t : T} {L : Int} {c d : Nat} (h : RepS t L c) (g : RepS t L d) : c = d := by
  rcases Nat.lt_trichotomy c d with z | z | z
  · exact absurd (rep_less (show c + 1 ≤ d by omega) g.1) h.2
  · exact z
  · exact absurd (rep_less (show d + 1 ≤ c by omega) h.1) g.2
theorem rc_uniq {t : T} {L : Int} {x y : V} (h : RcAt t L x) (g : RcAt t L y) : x = y := by
  rcases h with ⟨e, n⟩ | ⟨c, e, s⟩
  · rcases g with ⟨e2, n2⟩ | ⟨d, e2, s2⟩
    · rw [e, e2]
    · exact absurd (n (d + 1)) s2.2
  · rcases g with ⟨e2, n2⟩ | ⟨d, e2, s2⟩
    · exact absurd (n2 (c + 1)) s.2
    · rw [e, e2, reps_uniq s s2]
section
variable {P : Program} {w : World} {K : PySem.W.Frag} {mg : Str → Option Value} {base : Heap}
def spRC2 (K : PySem.W.Frag) (B : Addr) : Sp := fun vs H Q _ => ∃ (v : V) (t : T) (L : Int), vs = [v, .int L] ∧ RigAt K H v t ∧ 1 ≤ L ∧ GxR.TabG H B ∧ ∀ (x : V) (H' : Hp), Le H H' → RcAt t L x → flatV x = true → Q x H'
theorem ok_rc2 (G : Gx K mg) (TN : GxR.TabB base mg G.c_strand_names G.p_strand_names) (k : Nat) : FnOk P w K mg base CX0 (k + 16) G.f_repeat_count G.fd_repeat_count ["rig", "load"] (spRC2 K G.p_strand_names) := by
  refine (ok_rc (P := P) (w := w) (base := base) G TN k).imp fun vs H Q E h => ?_
  obtain ⟨v, t, L, rfl, hR, hL, hT, q⟩ := h
  exact ⟨v, t, L, rfl, hR, hL, hT, fun H' l n => q _ H' l (.inl ⟨rfl, n⟩) rfl, fun c H' l s => q _ H' l (.inr ⟨c, rfl, s⟩) rfl⟩
end
end Wr

set_option Elab.async false
set_option linter.all false
set_option maxRecDepth 100000
set_option maxHeartbeats 2000000
namespace Wr
open PySem PySem.Spec PyProof.Rows L2
theorem nd_le {α : Type} [DecidableEq α] : ∀ {l D : List α}, l.Nodup → (∀ x ∈ l, x ∈ D) → l.length ≤ D.length
  | [], _, _, _ => Nat.zero_le _
  | x :: r, D, nd, h => by
    have hx := h x List.mem_cons_self
    have := nd_le (l := r) (D := D.erase x) (List.nodup_cons.mp nd).2 fun y hy => (List.mem_erase_of_ne fun e => (List.nodup_cons.mp nd).1 (by rw [← e]; exact hy)).mpr (h y (List.mem_cons_of_mem _ hy))
    rw [List.length_erase_of_mem hx] at this
    have := List.length_pos_of_mem hx
    rw [List.length_cons]
    omega
theorem flatC_len {α β : Type} (f : α → List β) (c : Nat) : ∀ l : List α, (∀ x ∈ l, (f x).length ≤ c) → (l.flatMap f).length ≤ c * l.length
  | [], _ => Nat.zero_le _
  | x :: r, h => by
    rw [List.flatMap_cons, List.length_append, List.length_cons, Nat.mul_succ]
    have h1 := h x List.mem_cons_self
    have h2 := flatC_len f c r fun y hy => h y (List.mem_cons_of_mem _ hy)
    omega
end Wr

set_option Elab.async false
set_option linter.all false
set_option maxRecDepth 100000
set_option maxHeartbeats 2000000
namespace Wr
open PySem PySem.Spec PyProof.Rows L2
/-! ### all_trees and best_tree -/
/-- the trees of the first of these strands -/
def stgT (l : T) (r : List T) : List T := r.foldl (fun ts s => ts.flatMap fun t => t.withs s) [l]
theorem stgT_snoc (l : T) (r : List T) (s : T) : stgT l (r ++ [s]) = (stgT l r).flatMap fun t => t.withs s := by
  unfold stgT
  rw [List.foldl_append]
  rfl
theorem stgT_all (l : Str × Int × Int) : ∀ (k : Nat) (r : List (Str × Int × Int)), r.length = k → ∀ t ∈ stgT (leafT l) (r.map leafT), t.Ok ∧ t.leaves.Perm (l :: r)
  | 0, r, h, t, ht => by
    have e : r = [] := List.length_eq_zero_iff.mp h
    subst e
    have ht : t ∈ [leafT l] := ht
    rw [List.mem_singleton.mp ht]
    exact ⟨by unfold leafT T.Ok; trivial, List.Perm.refl _⟩
  | k + 1, r, h, t, ht => by
    rcases List.eq_nil_or_concat r with e | ⟨q, s, e⟩
    · rw [e] at h; cases h
    rw [e, List.concat_eq_append, List.map_append, List.map_singleton, stgT_snoc] at ht
    obtain ⟨t0, h0, h1⟩ := List.mem_flatMap.mp ht
    have hq : q.length = k := by
      rw [e, List.concat_eq_append, List.length_append] at h
      exact Nat.succ.inj h
    obtain ⟨o, p⟩ := stgT_all l k q hq t0 h0
    refine ⟨T.withs_ok (s := leafT s) (by unfold leafT T.Ok; trivial) t0 o t h1, (T.withs_lp (leafT s) t0 t h1).trans ?_⟩
    rw [e, List.concat_eq_append]
    exact p.append_right _
theorem stgT_len (l : Str × Int × Int) : ∀ (k : Nat) (r : List (Str × Int × Int)), r.length = k → k ≤ 3 → (stgT (leafT l) (r.map leafT)).length ≤ 9 ^ k
  | 0, r, h, _ => by
    have e : r = [] := List.length_eq_zero_iff.mp h
    subst e
    exact Nat.le_refl 1
  | k + 1, r, h, h3 => by
    rcases List.eq_nil_or_concat r with e | ⟨q, s, e⟩
    · rw [e] at h; cases h
    have hq : q.length = k := by
      rw [e, List.concat_eq_append, List.length_append] at h
      exact Nat.succ.inj h
    have ih := stgT_len l k q hq (by omega)
    rw [e, List.concat_eq_append, List.map_append, List.map_singleton, stgT_snoc]
    have := flatC_len (fun t : T => t.withs (leafT s)) 9 (stgT (leafT l) (q.map leafT)) fun t ht => by
      obtain ⟨o, p⟩ := stgT_all l k q hq t ht
      have := T.withs_len (leafT s) t o
      have e := p.length_eq
      rw [List.length_cons] at e
      show (t.withs (leafT s)).length ≤ 9
      omega
    rw [Nat.pow_succ]
    omega
section
variable {P : Program} {w : World} {K : PySem.W.Frag} {mg : Str → Option Value} {base : Heap}
def spAt (K : PySem.W.Frag) : Sp := fun vs H Q _ => ∃ (a : Addr) (us : List V) (l : Str × Int × Int) (r : List (Str × Int × Int)), vs = [.ref a] ∧ SqT K H a us ∧ DpAll K H us ((l :: r).map leafD) ∧ r.length ≤ 3 ∧
  ∀ (p : Addr) (ts : List V) (H' : Hp), Le H H' → H p = none → H' p = some (.lst ts) → DpAll K H' ts ((stgT (leafT l) (r.map leafT)).map T.data) → Q (.ref p) H'
theorem ok_at (G : Gx K mg) (k : Nat) : FnOk P w K mg base CX0 (k + 8) G.f_all_trees G.fd_all_trees ["strands"] (spAt K) := by
  have G_trees_with := (ok_tw (P := P) (w := w) (base := base) G k 6).mono (show 6 + k + 1 ≤ k + 7 by omega)
  refine G.F_all_trees.ok sc_all_trees (fun vs H Q E h => ?_) (fun cdv A outer s0 H vs Q E hr h => ?_)
  · obtain ⟨a, us, l, r, rfl, _⟩ := h
    rfl
  obtain ⟨a, us, l, r, rfl, ha, hAll, hr3, q⟩ := h
  have hr : Room (k + 7) _ := hr
  have ul := dpAll_length hAll
  rw [List.length_map, List.length_cons] at ul
  refine ⟨_, (pss_cons (ps_set (i := 1) sc_all_trees.nd rfl (.inl rfl) (pe_callTy call_list_of (by rfl) G.list (by decide +kernel) (pa_cons (pe_slice sl_tupA (pv 0) po_none (po_some pe_int)) pa_nil)))
    (pss_cons (ps_for PassesOwn.never rfl (pi_tup (pe_slice sl_tupA (pv 0) (po_some pe_int) po_none)) (pg_name (i := 2) sc_all_trees.nd rfl (.inr rfl))
      (pss_one (ps_setLc2 (i := 1) (own := [("tree", 3), ("grown", 4)]) (vs1 := [4]) (wi1 := iList K _) (g := gName 3) (g1 := gName 4) (tt := tYes) (tt1 := tYes) (by rfl) sc_all_trees.nd rfl rfl (sw_true rfl rfl rfl (by decide +kernel)) (pi_list (pv 1)) (blkOk_by (own := [("tree", 3), ("grown", 4)]) (N := N_all_trees) (sc := defScope s_all_trees) (by decide +kernel)) (by decide) (fun _ _ _ _ _ => (pg_name (i := 3) sc_all_trees.nd rfl (.inl rfl) (.inr rfl))) (fun _ _ _ _ _ => pts_nil) (fun _ _ _ _ _ => (pi_list (pe_call G_trees_with hr (by rfl) G.m_trees_with G.F_trees_with.kp G.b_trees_with .nil pass0 (pa_cons (pv 3) (pa_cons (pv 2) pa_nil))))) (fun _ _ _ _ _ => (pg_name (i := 4) sc_all_trees.nd rfl (.inl rfl) (.inr rfl))) (fun _ _ _ _ _ => pts_nil) (fun _ _ _ _ _ => (pv 4)))))
    (pss_one (ps_ret (pv 1))))), ?_⟩
  refine ⟨_, rfl, _, rfl, slS ha fun p1 H1 l1 k1 => ?_⟩
  rw [show cutV us none (some 1) = us.take 1 from cut_take (k := 1)] at k1
  refine ⟨p1, us.take 1, rfl, .inr k1, fun p2 hp2 => ?_⟩
  have l2 := Le.new (o := .lst (us.take 1)) hp2
  have l02 := l1.trans l2
  have k2 : upd H1 p2 (.lst (us.take 1)) p2 = some (.lst (us.take 1)) := upd_same
  have hp2H := l1.dom _ hp2
  have d2 : DpAll K (upd H1 p2 (.lst (us.take 1))) (us.take 1) ((stgT (leafT l) []).map T.data) := by
    have z := dpAll_take 1 (l02.dpAll hAll)
    exact z
  generalize upd H1 p2 (.lst (us.take 1)) = H2 at l02 k2 d2
  generalize us.take 1 = u1 at k2 d2
  refine ⟨_, rfl, _, rfl, ?_⟩
  dsimp only [tNoPart]
  refine slS (l02.sqt ha) fun p3 H3 l3 k3 => ?_
  rw [show cutV us (some 1) none = us.drop 1 from cut_drop (k := 1)] at k3
  have l03 := l02.trans l3
  refine ⟨p3, rfl, ⟨_, k3⟩, ?_⟩
  have dr : DpAll K H (us.drop 1) (r.map leafD) := by
    have z := dpAll_drop 1 hAll
    exact z
  have url : (us.drop 1).length = r.length := by rw [List.length_drop]; omega
  refine for_tup (D := { nx := _, rt := _, bk := fun _ _ => True, ct := fun _ _ => True }) (xs := us.drop 1) (fun i σ4 H4 => ∃ (p : Addr) (ts : List V) (z2 z3 z4 : Option V), σ4 = [some (.ref a), some (.ref p), z2, z3, z4] ∧ Le H3 H4 ∧ H p = none ∧ H4 p = some (.lst ts) ∧ DpAll K H4 ts ((stgT (leafT l) ((r.take i).map leafT)).map T.data)) ⟨p2, u1, _, _, _, rfl, Le.refl _, hp2H, l3.lst k2, l3.dpAll d2⟩ (fun i σ4 H4 _ ⟨_, _, _, _, _, _, l4, _⟩ => l4.sqt k3) ?_ ?_
  · rintro i x σ4 H4 hx ⟨p, ts, z2, z3, z4, rfl, l4, hp, h4, d4⟩
    have l04 := l03.trans l4
    have hi : i < r.length := by
      have := (List.getElem?_eq_some_iff.mp hx).1
      omega
    have hl : r[i]? = some r[i] := List.getElem?_eq_getElem hi
    obtain ⟨d, hdi, hdx⟩ := dpAll_getV dr hx
    rw [List.getElem?_map, hl] at hdi
    obtain rfl : leafD r[i] = d := Option.some.inj hdi
    have dx : Dp K H x (leafT r[i]).data := hdx
    have rt : r.take (i + 1) = r.take i ++ [r[i]] := by rw [List.take_succ, hl]; rfl
    generalize r[i] = s at hl hdx dx rt
    have tlen : (r.take i).length = i := by rw [List.length_take]; omega
    have all := stgT_all l i (r.take i) tlen
    have len9 := stgT_len l i (r.take i) tlen (by omega)
    have p9 : 9 ^ i ≤ 9 ^ 2 := Nat.pow_le_pow_right (by decide) (by omega)
    have e9 : 9 ^ 2 = 81 := by decide
    have stn : stgT (leafT l) ((r.take (i + 1)).map leafT) = (stgT (leafT l) ((r.take i).map leafT)).flatMap fun t => t.withs (leafT s) := by
      rw [rt, List.map_append, List.map_singleton, stgT_snoc]
    have lenN := stgT_len l (i + 1) (r.take (i + 1)) (by rw [List.length_take]; omega) (by omega)
    have p9' : 9 ^ (i + 1) ≤ 9 ^ 3 := Nat.pow_le_pow_right (by decide) (by omega)
    have e9' : 9 ^ 3 = 729 := by decide
    rw [stn] at lenN ⊢
    generalize stgT (leafT l) ((r.take i).map leafT) = S at d4 all len9 lenN
    have tsl := dpAll_length d4
    rw [List.length_map] at tsl
    have fl : ∀ m, ((S.take m).flatMap fun t => t.withs (leafT s)).length ≤ 729 := fun m => by
      have e : (S.flatMap fun t => t.withs (leafT s)).length = ((S.take m).flatMap fun t => t.withs (leafT s)).length + ((S.drop m).flatMap fun t => t.withs (leafT s)).length := by
        rw [← List.length_append, ← List.flatMap_append, List.take_append_drop]
      omega
    refine ⟨_, rfl, p, rfl, ⟨ts, sql h4⟩, fun D hD => ?_⟩
    refine ⟨fun m c Hm => c = S.length - m ∧ m ≤ S.length ∧ Le H4 Hm ∧ ∃ acc, Hm D = some (.lst acc) ∧ DpAll K Hm acc (((S.take m).flatMap fun t => t.withs (leafT s)).map T.data), ⟨S.length, rfl, Nat.zero_le _, Le.new hD, [], upd_same, .nil⟩, ?_⟩
    rintro m c Hm ⟨rfl, hm, lm, acc, hacc, dacc⟩
    by_cases hlt : m < S.length
    · have hx2 : ts[m]? = some ts[m] := List.getElem?_eq_getElem (by omega)
      refine .inr ⟨⟨ts, ts[m], sql (lm.lst h4), hx2⟩, fun H' => Le H4 H' ∧ ∃ acc, H' D = some (.lst acc) ∧ DpAll K H' acc (((S.take (m + 1)).flatMap fun t => t.withs (leafT s)).map T.data), fun H' z => ⟨S.length - (m + 1), by omega, rfl, hlt, z⟩, fun x2 H' y => ?_⟩
      obtain ⟨e, y⟩ := y
      subst e
      have ex := y ts (sql (lm.lst h4))
      obtain ⟨d2, hd2, hdx2⟩ := dpAll_getV (lm.dpAll d4) ex
      have hS : S[m]? = some S[m] := List.getElem?_eq_getElem hlt
      rw [List.getElem?_map, hS] at hd2
      obtain rfl : S[m].data = d2 := Option.some.inj hd2
      obtain ⟨o, pm⟩ := all _ (List.getElem_mem hlt)
      have pml := pm.length_eq
      rw [List.length_cons, tlen] at pml
      have tk : (S.take (m + 1)).flatMap (fun t => t.withs (leafT s)) = (S.take m).flatMap (fun t => t.withs (leafT s)) ++ S[m].withs (leafT s) := by
        rw [List.take_succ, hS, List.flatMap_append]
        show _ ++ List.flatMap _ [S[m]] = _
        rw [List.flatMap_cons, List.flatMap_nil, List.append_nil]
      have f1 := fl (m + 1)
      rw [tk, List.length_append] at f1
      rw [tk]
      generalize S[m] = t at hdx2 o pml f1
      have al := dpAll_length dacc
      rw [List.length_map] at al
      refine ⟨rfl, yes_go ?_⟩
      refine ⟨_, rfl, _, rfl, x2, x, t, leafT s, rfl, hdx2, o, by omega, by decide, (l04.trans lm).dp dx, fun pg gs H6 l6 hpg kg dg => ?_⟩
      refine ⟨pg, rfl, ⟨gs, sql kg⟩, ?_⟩
      have gl := dpAll_length dg
      rw [List.length_map] at gl
      have hacc6 := l6.lst hacc
      have pD : pg ≠ D := fun z => by rw [z, hacc] at hpg; cases hpg
      refine ⟨fun j c2 H7 => c2 = gs.length - j ∧ j ≤ gs.length ∧ Le H4 H7 ∧ H7 pg = some (.lst gs) ∧ H7 D = some (.lst (acc ++ gs.take j)) ∧ DpAll K H7 gs ((t.withs (leafT s)).map T.data) ∧ DpAll K H7 acc (((S.take m).flatMap fun t => t.withs (leafT s)).map T.data), ⟨gs.length, rfl, Nat.zero_le _, lm.trans l6, kg, by rw [List.take_zero, List.append_nil]; exact hacc6, dg, l6.dpAll dacc⟩, ?_⟩
      rintro j c2 H7 ⟨rfl, hj, l7, kg7, hD7, dg7, da7⟩
      have tupA : ∀ ls : List T, tupOL (ls.map T.data) = true := fun ls => tupOL_all.mpr fun d hd => by
        obtain ⟨g2, _, rfl⟩ := List.mem_map.mp hd
        exact tupO_data _
      by_cases jlt : j < gs.length
      · have hz : gs[j]? = some gs[j] := List.getElem?_eq_getElem jlt
        refine .inr ⟨⟨gs, gs[j], sql kg7, hz⟩, fun H' => Le H4 H' ∧ H' pg = some (.lst gs) ∧ H' D = some (.lst (acc ++ gs.take (j + 1))) ∧ DpAll K H' gs ((t.withs (leafT s)).map T.data) ∧ DpAll K H' acc (((S.take m).flatMap fun t => t.withs (leafT s)).map T.data), fun H' z => ⟨gs.length - (j + 1), by omega, rfl, jlt, z⟩, fun x3 H' y2 => ?_⟩
        obtain ⟨e, y2⟩ := y2
        subst e
        have ex2 := y2 gs (sql kg7)
        refine ⟨rfl, ?_⟩
        refine yes_go ⟨_, rfl, _, hD7, szlt (by rw [List.length_append, List.length_take]; omega), ?_⟩
        refine ⟨l7.mut hD, by rw [upd_ne pD]; exact kg7, ?_, dpAll_upd hD7 (tupA _) dg7, dpAll_upd hD7 (tupA _) da7⟩
        rw [upd_same, List.take_succ, ex2, List.append_assoc]
        rfl
      · have ej : j = gs.length := by omega
        subst ej
        refine .inl ⟨⟨gs, sql kg7, Nat.le_refl _⟩, l7, _, hD7, ?_⟩
        rw [List.take_length, List.map_append]
        exact dpAll_append da7 dg7
    · have ei : m = S.length := by omega
      subst ei
      refine .inl ⟨⟨ts, sql (lm.lst h4), by omega⟩, ?_⟩
      rw [List.take_length] at dacc
      exact ⟨_, acc, _, _, _, rfl, l4.trans lm, (l03.trans l4).dom _ hD, hacc, dacc⟩
  · rintro σ4 H4 ⟨p, ts, z2, z3, z4, rfl, l4, hp, h4, d4⟩
    rw [url, List.take_length] at d4
    exact ⟨_, rfl, q p ts H4 (l03.trans l4) hp h4 d4⟩
end
end Wr

set_option Elab.async false
set_option linter.all false
set_option maxRecDepth 100000
set_option maxHeartbeats 2000000
namespace Wr
open PySem PySem.Spec PyProof.Rows L2
/-! ### loads in order; what is left, computed: pure -/
def descL (Ls : List Int) : List Int := Ls.mergeSort fun a b => decide (b ≤ a)
def ascL (Ls : List Int) : List Int := Ls.mergeSort fun a b => decide (a ≤ b)
theorem desc_perm (Ls : List Int) : (descL Ls).Perm Ls := List.mergeSort_perm _ _
theorem asc_perm (Ls : List Int) : (ascL Ls).Perm Ls := List.mergeSort_perm _ _
theorem desc_pw (Ls : List Int) : (descL Ls).Pairwise fun a b => b ≤ a := by
  have h := List.pairwise_mergeSort (le := fun a b : Int => decide (b ≤ a)) (fun a b c h1 h2 => by simp only [decide_eq_true_eq] at *; omega) (fun a b => by simp only [Bool.or_eq_true, decide_eq_true_eq]; omega) Ls
  exact h.imp fun {a b} z => of_decide_eq_true z
theorem asc_pw (Ls : List Int) : (ascL Ls).Pairwise fun a b => a ≤ b := by
  have h := List.pairwise_mergeSort (le := fun a b : Int => decide (a ≤ b)) (fun a b c h1 h2 => by simp only [decide_eq_true_eq] at *; omega) (fun a b => by simp only [Bool.or_eq_true, decide_eq_true_eq]; omega) Ls
  exact h.imp fun {a b} z => of_decide_eq_true z
theorem desc_uniq {Ls Ms : List Int} (p : Ms.Perm Ls) (h : Ms.Pairwise fun a b => b ≤ a) : Ms = descL Ls := List.Perm.eq_of_pairwise (le := fun a b : Int => b ≤ a) (fun a b _ _ h1 h2 => by omega) h (desc_pw Ls) (p.trans (desc_perm Ls).symm)
theorem asc_uniqI {Ls Ms : List Int} (p : Ms.Perm Ls) (h : Ms.Pairwise fun a b => a ≤ b) : Ms = ascL Ls := List.Perm.eq_of_pairwise (le := fun a b : Int => a ≤ b) (fun a b _ _ h1 h2 => by omega) h (asc_pw Ls) (p.trans (asc_perm Ls).symm)
theorem asc_rev (Ls : List Int) : (ascL Ls).reverse = descL Ls := desc_uniq ((List.reverse_perm _).trans (asc_perm Ls)) (List.pairwise_reverse.mpr (asc_pw Ls))
theorem desc_congr {Ls Ms : List Int} (p : Ms.Perm Ls) : descL Ms = descL Ls := desc_uniq ((desc_perm Ms).trans p) (desc_pw Ms)
theorem desc_len (Ls : List Int) : (descL Ls).length = Ls.length := (desc_perm Ls).length_eq
theorem asc_len (Ls : List Int) : (ascL Ls).length = Ls.length := (asc_perm Ls).length_eq
/-! sorted ints, as data -/
theorem dpAll_ints {K : PySem.W.Frag} {H : Hp} : ∀ {us : List V} {s : List Int}, DpAll K H us (s.map PyData.int) → us = s.map V.int
  | _, [], h => by
    cases h
    rfl
  | _, x :: r, h => by
    rw [List.map_cons] at h
    cases h with
    | cons h1 h2 =>
      cases h1
      rw [dpAll_ints h2, List.map_cons]
theorem sortD_desc (Ls : List Int) : (Ls.map PyData.int).mergeSort (D2.leD true) = (descL Ls).map .int := by
  refine (PySem.W.sort_maps (r := fun a b : Int => decide (b ≤ a)) (s := D2.leD true) PyData.int fun a _ b _ => ?_).symm
  have e := congrFun (congrFun (PySem.W.dataGe_int (fun x : Int => x)) a) b
  exact e.symm
theorem sortD_asc (Ls : List Int) : (Ls.map PyData.int).mergeSort (D2.leD false) = (ascL Ls).map .int := by
  refine (PySem.W.sort_maps (r := fun a b : Int => decide (a ≤ b)) (s := D2.leD false) PyData.int fun a _ b _ => ?_).symm
  have e := congrFun (congrFun (PySem.W.dataLe_int (fun x : Int => x)) a) b
  exact e.symm
theorem alike_intsD (Ls : List Int) : PySem.W.AllAlike (Ls.map PyData.int) := PySem.W.AllAlike.of fun a b => by simp [PySem.W.alike]
theorem sortable_ints (Ls : List Int) : PySem.W.Sortable (Ls.map PyData.int) := PySem.W.Sortable.others fun a => ⟨fun e => (by cases e), fun xs e => (by cases e)⟩
theorem depth_intsD (Ls : List Int) : ∀ d ∈ Ls.map PyData.int, d.depth ≤ 60 := fun d hd => by
  obtain ⟨x, _, rfl⟩ := List.mem_map.mp hd
  simp [PyData.depth]
/-! ### what is left, computed -/
def iterG (t : T) (pw : Str → Int) (L : Int) : Nat → List Str → List Str
  | 0, N => N
  | k + 1, N => iterG t pw L k (t.good pw L N)
theorem good_sub {t : T} {pw : Str → Int} {L : Int} {N : List Str} : (t.good pw L N).Sublist N := List.filter_sublist
theorem iterG_fix {t : T} {pw : Str → Int} {L : Int} : ∀ (k : Nat) (N : List Str), N.length ≤ k → t.good pw L (iterG t pw L k N) = iterG t pw L k N
  | 0, N, h => by
    have e : N = [] := List.length_eq_zero_iff.mp (by omega)
    rw [e]
    rfl
  | k + 1, N, h => by
    by_cases e : t.good pw L N = N
    · have f : ∀ j, iterG t pw L j N = N := fun j => by
        induction j with
        | zero => rfl
        | succ j ih => rw [iterG, e, ih]
      rw [f, e]
    · refine iterG_fix k _ ?_
      have s := good_sub (t := t) (pw := pw) (L := L) (N := N)
      have l := s.length_le
      rcases Nat.lt_or_ge (t.good pw L N).length N.length with z | z
      · omega
      · exact absurd (s.eq_of_length_le z) e
theorem iterG_sub {t : T} {pw : Str → Int} {L : Int} : ∀ (k : Nat) (N : List Str), (iterG t pw L k N).Sublist N
  | 0, N => List.Sublist.refl N
  | k + 1, N => (iterG_sub k _).trans good_sub
theorem iterG_most {t : T} {pw : Str → Int} {L : Int} (nd : t.names.Nodup) (h1 : 1 ≤ L) {R : Str → Bool} (hR : Holds t pw L R) (ha : Sub R t.all) : ∀ (k : Nat) (N : List Str), Sub R (inL N) → Sub R (inL (iterG t pw L k N))
  | 0, N, h => h
  | k + 1, N, h => iterG_most nd h1 hR ha k _ (good_most nd h1 hR ha h)
theorem best_comp {t : T} {pw : Str → Int} {L : Int} (nd : t.names.Nodup) (h1 : 1 ≤ L) {N : List Str} (hN : ∀ n ∈ N, n ∈ t.names) {k : Nat} (hk : N.length ≤ k) : t.best pw L (inL N) = inL (iterG t pw L k N) := by
  have b : Best t pw L (inL N) (inL (iterG t pw L k N)) := ⟨fun n _ h => decide_eq_true ((iterG_sub k N).subset (of_decide_eq_true h)), good_holds nd (iterG_fix k N hk), fun R r1 r2 r3 => iterG_most nd h1 r3 (fun n hn => T.all_iff.mpr (r1 n hn)) k N r2⟩
  refine Sub.eq (fun n h => ?_) (fun n h => ?_)
  · rw [b.at n (T.all_iff.mp (best_all n h))]
    exact h
  · rw [← b.at n (hN n ((iterG_sub k N).subset (of_decide_eq_true h)))]
    exact h
/-- the names that are left, computed -/
def runC (t : T) : Nat → List Str → List Int → List Str
  | _, N, [] => N
  | j, N, L :: Ls => runC t (j + 1) (iterG t (t.pw (j : Nat)) L N.length N) Ls
theorem run_comp {t : T} (nd : t.names.Nodup) : ∀ (Ls : List Int) (j : Nat) (N : List Str), (∀ L ∈ Ls, 1 ≤ L) → (∀ n ∈ N, n ∈ t.names) → t.run j (inL N) Ls = inL (runC t j N Ls)
  | [], _, _, _, _ => rfl
  | L :: Ls, j, N, hL, hN => by
    rw [T.run, runC, best_comp nd (hL L List.mem_cons_self) hN (Nat.le_refl _)]
    exact run_comp nd Ls (j + 1) _ (fun x hx => hL x (List.mem_cons_of_mem _ hx)) fun n hn => hN n ((iterG_sub _ _).subset hn)
theorem left_comp {t : T} (nd : t.names.Nodup) {Ls : List Int} (hL : ∀ L ∈ Ls, 1 ≤ L) : t.left Ls = inL (runC t 0 t.names Ls) := run_comp nd Ls 0 t.names hL fun _ h => h
theorem works_comp {t : T} (nd : t.names.Nodup) {Ls : List Int} (hL : ∀ L ∈ Ls, 1 ≤ L) : t.works Ls ↔ (runC t 0 t.names Ls).isEmpty = false := by
  unfold T.works
  rw [left_comp nd hL]
  constructor
  · rintro ⟨n, hn⟩
    cases h : runC t 0 t.names Ls with
    | nil => rw [h] at hn; exact absurd (of_decide_eq_true hn) (by simp)
    | cons => rfl
  · intro h
    cases h2 : runC t 0 t.names Ls with
    | nil => rw [h2] at h; cases h
    | cons n r => exact ⟨n, decide_eq_true List.mem_cons_self⟩
end Wr

set_option Elab.async false
set_option linter.all false
set_option maxRecDepth 100000
set_option maxHeartbeats 2000000
namespace Wr
open PySem PySem.Spec PyProof.Rows L2
/-! ### two trees that lift alike: other names, all numbers times a factor -/
abbrev mulL (f : Int) (Ls : List Int) : List Int := Ls.map fun L => f * L
structure Sim (ρ : Str → Str) (f : Int) (t u : T) : Prop where
  pos : 1 ≤ f
  inj : ∀ a ∈ t.names, ∀ b ∈ t.names, ρ a = ρ b → a = b
  nm : u.names.Perm (t.names.map ρ)
  dv : ∀ (S : Str → Bool) (n : Str) (d : Int), n ∈ t.names → ((ρ n, d) ∈ u.div S ↔ (n, d) ∈ t.div fun m => S (ρ m))
  pw : ∀ (j : Int) (n : Str), n ∈ t.names → u.pw j (ρ n) = f * t.pw j n
namespace Sim
variable {ρ : Str → Str} {f : Int} {t u : T}
theorem mem (s : Sim ρ f t u) {n : Str} (h : n ∈ t.names) : ρ n ∈ u.names := s.nm.mem_iff.mpr (List.mem_map.mpr ⟨n, h, rfl⟩)
theorem of (s : Sim ρ f t u) {m : Str} (h : m ∈ u.names) : ∃ n ∈ t.names, ρ n = m := List.mem_map.mp (s.nm.mem_iff.mp h)
theorem whole_eq (s : Sim ρ f t u) {j L : Int} {S : Str → Bool} {n : Str} (h : n ∈ t.names) : whole u (u.pw j) (f * L) S (ρ n) = whole t (t.pw j) L (fun m => S (ρ m)) n := by
  rw [Bool.eq_iff_iff, whole_iff, whole_iff]
  refine exists_congr fun d => ?_
  rw [s.dv S n d h, s.pw j n h]
  refine and_congr_right fun _ => ?_
  rw [Int.mul_assoc]
  have := s.pos
  exact ⟨fun h => Int.le_of_mul_le_mul_left h (by omega), fun h => Int.mul_le_mul_of_nonneg_left h (by omega)⟩
theorem best_eq (s : Sim ρ f t u) {j L : Int} {N : Str → Bool} {n : Str} (h : n ∈ t.names) : u.best (u.pw j) (f * L) N (ρ n) = t.best (t.pw j) L (fun m => N (ρ m)) n := by
  rw [Bool.eq_iff_iff, best_iff, best_iff]
  constructor
  · rintro ⟨R, r1, r2, r3, r4⟩
    have e : ∀ m ∈ t.names, (fun m => R (ρ m)) m = (fun m => R (ρ m) && t.all m) m := fun m hm => by
      show R (ρ m) = (R (ρ m) && t.all m)
      rw [T.all_iff.mpr hm, Bool.and_true]
    refine ⟨fun m => R (ρ m) && t.all m, fun m z => (Bool.and_eq_true_iff.mp z).2, fun m z => r2 _ (Bool.and_eq_true_iff.mp z).1, Holds.congr e fun m hm hr => ?_, by rw [← e n h]; exact r4⟩
    rw [← s.whole_eq hm]
    exact r3 _ (s.mem hm) hr
  · rintro ⟨R, r1, r2, r3, r4⟩
    obtain ⟨R', e, back⟩ : ∃ R' : Str → Bool, (∀ m ∈ t.names, R' (ρ m) = R m) ∧ ∀ m, R' m = true → ∃ n ∈ t.names, ρ n = m ∧ R n = true := by
      refine ⟨fun m => t.names.any fun n => decide (ρ n = m) && R n, fun m hm => ?_, fun m z => ?_⟩
      · rw [Bool.eq_iff_iff, List.any_eq_true]
        constructor
        · rintro ⟨k, hk, z⟩
          obtain ⟨z1, z2⟩ := Bool.and_eq_true_iff.mp z
          rw [s.inj k hk m hm (of_decide_eq_true z1)] at z2
          exact z2
        · exact fun z => ⟨m, hm, by rw [z, decide_eq_true rfl]; rfl⟩
      · obtain ⟨k, hk, z⟩ := List.any_eq_true.mp z
        obtain ⟨z1, z2⟩ := Bool.and_eq_true_iff.mp z
        exact ⟨k, hk, of_decide_eq_true z1, z2⟩
    refine ⟨R', fun m z => ?_, fun m z => ?_, fun m hm z => ?_, by rw [e n h]; exact r4⟩
    · obtain ⟨k, hk, rfl, _⟩ := back m z
      exact T.all_iff.mpr (s.mem hk)
    · obtain ⟨k, hk, rfl, zr⟩ := back m z
      exact r2 k zr
    · obtain ⟨k, hk, rfl, zr⟩ := back m z
      rw [s.whole_eq hk, whole_congr (S' := R) e]
      exact r3 k hk zr
theorem run_eq (s : Sim ρ f t u) : ∀ (Ls : List Int) (j : Nat) (N N0 : Str → Bool), (∀ n ∈ t.names, N (ρ n) = N0 n) → ∀ n ∈ t.names, u.run j N (mulL f Ls) (ρ n) = t.run j N0 Ls n
  | [], _, _, _, h, n, hn => h n hn
  | L :: Ls, j, N, N0, h, n, hn => by
    show u.run (j + 1) (u.best _ (f * L) N) (mulL f Ls) (ρ n) = t.run (j + 1) (t.best _ L N0) Ls n
    exact run_eq s Ls (j + 1) _ _ (fun m hm => by rw [s.best_eq hm, best_congr (N' := N0) h]) n hn
theorem left_eq (s : Sim ρ f t u) (Ls : List Int) {n : Str} (h : n ∈ t.names) : u.left (mulL f Ls) (ρ n) = t.left Ls n := s.run_eq Ls 0 _ _ (fun m hm => by rw [T.all_iff.mpr hm, T.all_iff.mpr (s.mem hm)]) n h
theorem some_eq (s : Sim ρ f t u) (Ls : List Int) : Some1 (u.left (mulL f Ls)) ↔ Some1 (t.left Ls) := by
  constructor
  · rintro ⟨m, hm⟩
    obtain ⟨n, hn, rfl⟩ := s.of (T.all_iff.mp (left_all _ m hm))
    exact ⟨n, by rw [← s.left_eq Ls hn]; exact hm⟩
  · rintro ⟨n, hn⟩
    exact ⟨ρ n, by rw [s.left_eq Ls (T.all_iff.mp (left_all _ n hn))]; exact hn⟩
theorem works_eq (s : Sim ρ f t u) (Ls : List Int) : u.works (mulL f Ls) ↔ t.works Ls := s.some_eq Ls
theorem take_mul (f : Int) (Ls : List Int) (i : Nat) : (mulL f Ls).take i = mulL f (Ls.take i) := (List.map_take ..).symm
theorem count (s : Sim ρ f t u) {Ls : List Int} {m : Nat} (h : CountL u (mulL f Ls) m) : CountL t Ls m := by
  obtain ⟨h1, h2, h3⟩ := h
  rw [List.length_map] at h1 h3
  refine ⟨h1, fun i hi => ?_, fun hm => ?_⟩
  · have := h2 i hi
    rw [take_mul, s.some_eq] at this
    exact this
  · have := h3 hm
    rw [take_mul, s.some_eq] at this
    exact this
theorem desc_mul (hf : 1 ≤ f) (Ls : List Int) : descL (mulL f Ls) = mulL f (descL Ls) := by
  refine (desc_uniq ((desc_perm Ls).map _) ?_).symm
  exact List.pairwise_map.mpr ((desc_pw Ls).imp fun h => Int.mul_le_mul_of_nonneg_left h (by omega))
theorem feas (s : Sim ρ f t u) (Ls : List Int) : u.works (descL (mulL f Ls)) ↔ t.works (descL Ls) := by
  rw [desc_mul s.pos, s.works_eq]
theorem kept (s : Sim ρ f t u) (Ls : List Int) : (u.names.filter (u.left (mulL f Ls))).Perm ((t.names.filter (t.left Ls)).map ρ) := by
  refine (s.nm.filter _).trans ?_
  rw [List.filter_map]
  have : t.names.filter ((u.left (mulL f Ls)) ∘ ρ) = t.names.filter (t.left Ls) := List.filter_congr fun n hn => s.left_eq Ls hn
  rw [this]
end Sim
theorem CountL.uniq {t : T} {Ls : List Int} {m n : Nat} (h : CountL t Ls m) (h' : CountL t Ls n) : m = n := by
  rcases Nat.lt_trichotomy m n with z | z | z
  · exact absurd (h'.2.1 (m + 1) z) (h.2.2 (Nat.lt_of_lt_of_le z h'.1))
  · exact z
  · exact absurd (h.2.1 (n + 1) z) (h'.2.2 (Nat.lt_of_lt_of_le z h.1))
/-! ### strengths and wears times a factor -/
mutual
def T.scale (f : Int) : T → T
  | .leaf n p w => .leaf n (f * p) (f * w)
  | .node ts => .node (T.scaleL f ts)
def T.scaleL (f : Int) : List T → List T
  | [] => []
  | t :: r => t.scale f :: T.scaleL f r
end
theorem T.scaleL_map (f : Int) : ∀ ts : List T, T.scaleL f ts = ts.map (T.scale f)
  | [] => rfl
  | t :: r => by rw [T.scaleL, T.scaleL_map f r, List.map_cons]
mutual
theorem scale_leaves (f : Int) : ∀ t : T, (t.scale f).leaves = t.leaves.map fun l => (l.1, f * l.2.1, f * l.2.2)
  | .leaf n p w => rfl
  | .node ts => by
    show T.leavesL (T.scaleL f ts) = (T.leavesL ts).map _
    exact scaleL_leaves f ts
theorem scaleL_leaves (f : Int) : ∀ ts : List T, T.leavesL (T.scaleL f ts) = (T.leavesL ts).map fun l => (l.1, f * l.2.1, f * l.2.2)
  | [] => rfl
  | t :: r => by
    rw [T.scaleL, T.leavesL, T.leavesL, List.map_append, scale_leaves f t, scaleL_leaves f r]
end
mutual
theorem scale_div (f : Int) (S : Str → Bool) : ∀ t : T, (t.scale f).div S = t.div S
  | .leaf n p w => rfl
  | .node ts => by
    show share (T.divL S (T.scaleL f ts)) = share (T.divL S ts)
    rw [scaleL_div f S ts]
theorem scaleL_div (f : Int) (S : Str → Bool) : ∀ ts : List T, T.divL S (T.scaleL f ts) = T.divL S ts
  | [] => rfl
  | t :: r => by
    rw [T.scaleL, T.divL, T.divL, scale_div f S t, scaleL_div f S r]
end
mutual
theorem scale_ok (f : Int) : ∀ t : T, t.Ok → (t.scale f).Ok
  | .leaf n p w, _ => trivial
  | .node ts, h => by
    refine ⟨?_, scaleL_ok f ts h.2⟩
    rw [T.scaleL_map, List.length_map]
    exact h.1
theorem scaleL_ok (f : Int) : ∀ ts : List T, T.OkL ts → T.OkL (T.scaleL f ts)
  | [], _ => trivial
  | t :: r, h => ⟨scale_ok f t h.1, scaleL_ok f r h.2⟩
end
theorem scale_names (f : Int) (t : T) : (t.scale f).names = t.names := by
  unfold T.names
  rw [scale_leaves, List.map_map]
  rfl
theorem scale_pw (f j : Int) (t : T) (n : Str) : (t.scale f).pw j n = f * t.pw j n := by
  unfold T.pw
  rw [scale_leaves, List.find?_map]
  show (((t.leaves.find? fun l => decide (l.1 = n)).map fun l => (l.1, f * l.2.1, f * l.2.2)).map fun l => l.2.1 - j * l.2.2).getD 0 = _
  cases t.leaves.find? fun l => decide (l.1 = n) with
  | none => exact (Int.mul_zero f).symm
  | some l =>
    show f * l.2.1 - j * (f * l.2.2) = f * (l.2.1 - j * l.2.2)
    rw [Int.mul_sub, ← Int.mul_assoc, ← Int.mul_assoc, Int.mul_comm j f]
theorem sim_scale {f : Int} (hf : 1 ≤ f) (t : T) : Sim id f t (t.scale f) where
  pos := hf
  inj := fun a _ b _ h => h
  nm := by rw [scale_names, List.map_id]
  dv := fun S n d _ => by
    rw [scale_div]
    exact Iff.rfl
  pw := fun j n _ => scale_pw f j t n
/-! ### other names, children in reverse -/
mutual
def T.ren (ρ : Str → Str) : T → T
  | .leaf n p w => .leaf (ρ n) p w
  | .node ts => .node (T.renL ρ ts)
def T.renL (ρ : Str → Str) : List T → List T
  | [] => []
  | t :: r => T.renL ρ r ++ [t.ren ρ]
end
theorem T.renL_map (ρ : Str → Str) : ∀ ts : List T, T.renL ρ ts = (ts.map (T.ren ρ)).reverse
  | [] => rfl
  | t :: r => by rw [T.renL, T.renL_map ρ r, List.map_cons, List.reverse_cons]
abbrev renX (ρ : Str → Str) (l : Str × Int × Int) : Str × Int × Int := (ρ l.1, l.2.1, l.2.2)
mutual
theorem ren_leaves (ρ : Str → Str) : ∀ t : T, (t.ren ρ).leaves.Perm (t.leaves.map (renX ρ))
  | .leaf n p w => .refl _
  | .node ts => by
    show (T.leavesL (T.renL ρ ts)).Perm ((T.leavesL ts).map _)
    exact renL_leaves ρ ts
theorem renL_leaves (ρ : Str → Str) : ∀ ts : List T, (T.leavesL (T.renL ρ ts)).Perm ((T.leavesL ts).map (renX ρ))
  | [] => .refl _
  | t :: r => by
    have e : T.leavesL (t :: r) = t.leaves ++ T.leavesL r := rfl
    have e2 : T.leavesL [t.ren ρ] = (t.ren ρ).leaves ++ [] := rfl
    rw [T.renL, T.leavesL_append, e, e2, List.append_nil, List.map_append]
    exact List.perm_append_comm.trans (List.Perm.append (ren_leaves ρ t) (renL_leaves ρ r))
end
theorem hold_len (S : Str → Bool) (ts : List T) : ((T.divL S ts).filter fun p => !p.isEmpty).length = ts.countP fun t => !(t.div S).isEmpty := by
  rw [T.divL_map, ← List.countP_eq_length_filter, List.countP_map]
  rfl
theorem share_mem {ps : List Dv} {x : Str × Int} : x ∈ share ps ↔ ∃ p ∈ ps, ∃ y ∈ p, x = (y.1, y.2 * ((ps.filter fun p => !p.isEmpty).length : Nat)) := by
  unfold share
  rw [List.mem_flatMap]
  constructor
  · rintro ⟨p, hp, h⟩
    obtain ⟨y, hy, rfl⟩ := List.mem_map.mp h
    exact ⟨p, (List.mem_filter.mp hp).1, y, hy, rfl⟩
  · rintro ⟨p, hp, y, hy, rfl⟩
    refine ⟨p, List.mem_filter.mpr ⟨hp, ?_⟩, List.mem_map.mpr ⟨y, hy, rfl⟩⟩
    cases p with
    | nil => cases hy
    | cons a b => rfl
mutual
theorem ren_div (ρ : Str → Str) (S : Str → Bool) : ∀ (t : T) (x : Str × Int), x ∈ (t.ren ρ).div S ↔ ∃ y ∈ t.div (fun m => S (ρ m)), x = (ρ y.1, y.2)
  | .leaf n p w, x => by
    show x ∈ T.div S (.leaf (ρ n) p w) ↔ ∃ y ∈ T.div (fun m => S (ρ m)) (.leaf n p w), _
    unfold T.div
    by_cases h : S (ρ n) = true
    · rw [if_pos h, if_pos h, List.mem_singleton]
      constructor
      · rintro rfl
        exact ⟨_, List.mem_cons_self, rfl⟩
      · rintro ⟨y, hy, rfl⟩
        rw [List.mem_singleton.mp hy]
    · rw [if_neg h, if_neg h]
      exact ⟨fun z => (by cases z), fun ⟨y, hy, _⟩ => (by cases hy)⟩
  | .node ts, x => by
    show x ∈ share (T.divL S (T.renL ρ ts)) ↔ ∃ y ∈ share (T.divL (fun m => S (ρ m)) ts), _
    have ih := renL_div ρ S ts
    have ec : ((T.divL S (T.renL ρ ts)).filter fun p => !p.isEmpty).length = ((T.divL (fun m => S (ρ m)) ts).filter fun p => !p.isEmpty).length := by
      rw [hold_len, hold_len, T.renL_map, List.countP_reverse, List.countP_map]
      refine List.countP_congr fun t ht => ?_
      show (!((t.ren ρ).div S).isEmpty) = true ↔ _
      have e : ((t.ren ρ).div S).isEmpty = (t.div fun m => S (ρ m)).isEmpty := by
        rw [Bool.eq_iff_iff, List.isEmpty_iff, List.isEmpty_iff, List.eq_nil_iff_forall_not_mem, List.eq_nil_iff_forall_not_mem]
        constructor
        · exact fun h y hy => h _ ((ih t ht _).mpr ⟨y, hy, rfl⟩)
        · intro h y hy
          obtain ⟨z, hz, _⟩ := (ih t ht y).mp hy
          exact h z hz
      rw [e]
    rw [share_mem]
    constructor
    · rintro ⟨p, hp, y, hy, rfl⟩
      rw [T.divL_map, T.renL_map] at hp
      obtain ⟨u, hu, rfl⟩ := List.mem_map.mp hp
      obtain ⟨t, ht, rfl⟩ := List.mem_map.mp (List.mem_reverse.mp hu)
      obtain ⟨z, hz, rfl⟩ := (ih t ht y).mp hy
      refine ⟨_, share_mem.mpr ⟨_, by rw [T.divL_map]; exact List.mem_map.mpr ⟨t, ht, rfl⟩, z, hz, rfl⟩, ?_⟩
      rw [ec]
    · rintro ⟨y, hy, rfl⟩
      obtain ⟨p, hp, z, hz, rfl⟩ := share_mem.mp hy
      rw [T.divL_map] at hp
      obtain ⟨t, ht, rfl⟩ := List.mem_map.mp hp
      refine ⟨(t.ren ρ).div S, ?_, (ρ z.1, z.2), (ih t ht _).mpr ⟨z, hz, rfl⟩, ?_⟩
      · rw [T.divL_map, T.renL_map]
        exact List.mem_map.mpr ⟨_, List.mem_reverse.mpr (List.mem_map.mpr ⟨t, ht, rfl⟩), rfl⟩
      · rw [ec]
theorem renL_div (ρ : Str → Str) (S : Str → Bool) : ∀ (ts : List T), ∀ t ∈ ts, ∀ (x : Str × Int), x ∈ (t.ren ρ).div S ↔ ∃ y ∈ t.div (fun m => S (ρ m)), x = (ρ y.1, y.2)
  | [], t, ht, _ => by cases ht
  | a :: r, t, ht, x => by
    rcases List.mem_cons.mp ht with z | z
    · rw [z]
      exact ren_div ρ S a x
    · exact renL_div ρ S r t z x
end
mutual
theorem ren_ok (ρ : Str → Str) : ∀ t : T, t.Ok → (t.ren ρ).Ok
  | .leaf n p w, _ => trivial
  | .node ts, h => by
    refine ⟨?_, T.okL_all.mpr fun u hu => ?_⟩
    · rw [T.renL_map, List.length_reverse, List.length_map]
      exact h.1
    · rw [T.renL_map] at hu
      obtain ⟨t, ht, rfl⟩ := List.mem_map.mp (List.mem_reverse.mp hu)
      exact renL_ok ρ ts h.2 t ht
theorem renL_ok (ρ : Str → Str) : ∀ ts : List T, T.OkL ts → ∀ t ∈ ts, (t.ren ρ).Ok
  | [], _, t, ht => by cases ht
  | a :: r, h, t, ht => by
    rcases List.mem_cons.mp ht with z | z
    · rw [z]
      exact ren_ok ρ a h.1
    · exact renL_ok ρ r h.2 t z
end
theorem ren_names (ρ : Str → Str) (t : T) : (t.ren ρ).names.Perm (t.names.map ρ) := by
  have h := (ren_leaves ρ t).map (·.1)
  unfold T.names
  rw [List.map_map] at h ⊢
  exact h
theorem nd_ren {ρ : Str → Str} {t : T} (nd : t.names.Nodup) (inj : ∀ a ∈ t.names, ∀ b ∈ t.names, ρ a = ρ b → a = b) : (t.ren ρ).names.Nodup := by
  refine (ren_names ρ t).nodup_iff.mpr ?_
  exact List.pairwise_map.mpr (nd.imp_of_mem fun {a b} ha hb h z => h (inj a ha b hb z))
theorem pw_at {t : T} (nd : t.names.Nodup) {l : Str × Int × Int} (h : l ∈ t.leaves) (j : Int) : t.pw j l.1 = l.2.1 - j * l.2.2 := by
  unfold T.pw
  cases hf : t.leaves.find? fun x => decide (x.1 = l.1) with
  | none => exact absurd (decide_eq_true rfl) (List.find?_eq_none.mp hf l h)
  | some x =>
    have hx := List.mem_of_find?_eq_some hf
    have e : x.1 = l.1 := by simpa using List.find?_some hf
    have : x = l := by
      have gen : ∀ ls : List (Str × Int × Int), (ls.map (·.1)).Nodup → ∀ a ∈ ls, ∀ b ∈ ls, a.1 = b.1 → a = b := fun ls => by
        induction ls with
        | nil => exact fun _ a ha => by cases ha
        | cons c r ih =>
          intro hn a ha b hb e
          rw [List.map_cons, List.nodup_cons] at hn
          rcases List.mem_cons.mp ha with z | z <;> rcases List.mem_cons.mp hb with y | y
          · rw [z, y]
          · exact absurd (List.mem_map.mpr ⟨b, y, by rw [← e, z]⟩) hn.1
          · exact absurd (List.mem_map.mpr ⟨a, z, by rw [e, y]⟩) hn.1
          · exact ih hn.2 a z b y e
      exact gen _ nd x hx l h e
    rw [this]
    rfl
theorem sim_ren {ρ : Str → Str} {t : T} (nd : t.names.Nodup) (inj : ∀ a ∈ t.names, ∀ b ∈ t.names, ρ a = ρ b → a = b) : Sim ρ 1 t (t.ren ρ) where
  pos := Int.le_refl 1
  inj := inj
  nm := ren_names ρ t
  dv := fun S n d hn => by
    rw [ren_div]
    constructor
    · rintro ⟨y, hy, e⟩
      obtain ⟨e1, e2⟩ := Prod.mk.inj e
      have := inj n hn y.1 (T.div_name hy).1 e1
      rw [this, e2]
      exact hy
    · exact fun h => ⟨_, h, rfl⟩
  pw := fun j n hn => by
    obtain ⟨l, hl, rfl⟩ := List.mem_map.mp hn
    have h2 : renX ρ l ∈ (t.ren ρ).leaves := (ren_leaves ρ t).mem_iff.mpr (List.mem_map.mpr ⟨l, hl, rfl⟩)
    rw [Int.one_mul]
    exact (pw_at (nd_ren nd inj) h2 j).trans (pw_at nd hl j).symm
end Wr

set_option Elab.async false
set_option linter.all false
set_option maxRecDepth 100000
set_option maxHeartbeats 2000000
namespace Wr
open PySem PySem.Spec PyProof.Rows L2
/-! ### repeat counts of trees that lift alike -/
theorem mul_one' (Ls : List Int) : mulL 1 Ls = Ls := by
  have : (fun L : Int => 1 * L) = id := funext fun L => Int.one_mul L
  show Ls.map (fun L => 1 * L) = Ls
  rw [this, List.map_id]
namespace Sim
variable {ρ : Str → Str} {f : Int} {t u : T}
theorem rep_works (s : Sim ρ f t u) (L : Int) (c : Nat) : u.works (List.replicate c (f * L)) ↔ t.works (List.replicate c L) := by
  rw [← s.works_eq]
  show _ ↔ u.works ((List.replicate c L).map fun L => f * L)
  rw [List.map_replicate]
theorem repN (s : Sim ρ f t u) {L : Int} : RepN u (f * L) ↔ RepN t L := forall_congr' fun n => s.rep_works L n
theorem repS (s : Sim ρ f t u) {L : Int} {c : Nat} : RepS u (f * L) c ↔ RepS t L c := and_congr (s.rep_works L c) (not_congr (s.rep_works L (c + 1)))
end Sim
end Wr

set_option Elab.async false
set_option linter.all false
set_option maxRecDepth 100000
set_option maxHeartbeats 2000000
namespace Wr
open PySem PySem.Spec PyProof.Rows L2
/-! ### trees of numbered strands: pure -/
inductive Sk where
  | lf (i : Nat)
  | nd (ts : List Sk)
mutual
def Sk.withs : Sk → Sk → List Sk
  | .lf i, l => [.nd [.lf i, l]]
  | .nd ts, l => .nd [.nd ts, l] :: .nd (ts ++ [l]) :: Sk.withsL [] ts l
def Sk.withsL : List Sk → List Sk → Sk → List Sk
  | _, [], _ => []
  | pre, c :: r, l => (Sk.withs c l).map (fun g => .nd (pre ++ g :: r)) ++ Sk.withsL (pre ++ [c]) r l
end
def stgK (l : Sk) (r : List Sk) : List Sk := r.foldl (fun ts s => ts.flatMap fun t => t.withs s) [l]
mutual
def Sk.toT (f : Nat → Str × Int × Int) : Sk → T
  | .lf i => leafT (f i)
  | .nd ts => .node (Sk.toTL f ts)
def Sk.toTL (f : Nat → Str × Int × Int) : List Sk → List T
  | [] => []
  | t :: r => t.toT f :: Sk.toTL f r
end
theorem Sk.toTL_map (f : Nat → Str × Int × Int) : ∀ ts : List Sk, Sk.toTL f ts = ts.map (Sk.toT f)
  | [] => rfl
  | t :: r => by rw [Sk.toTL, Sk.toTL_map f r, List.map_cons]
mutual
theorem Sk.withs_toT (f : Nat → Str × Int × Int) (l : Sk) : ∀ s : Sk, (s.toT f).withs (l.toT f) = (s.withs l).map (Sk.toT f)
  | .lf i => by
    rw [Sk.withs, List.map_singleton, Sk.toT, leafT, T.withs, Sk.toT, Sk.toTL, Sk.toTL, Sk.toTL, Sk.toT]
    rfl
  | .nd ts => by
    have z := Sk.withsL_toT f l [] ts
    rw [Sk.toTL] at z
    rw [Sk.withs, List.map_cons, List.map_cons, Sk.toT, T.withs, z, Sk.toT, Sk.toTL, Sk.toTL, Sk.toTL, Sk.toT, Sk.toT, Sk.toTL_map, Sk.toTL_map, List.map_append]
    rfl
theorem Sk.withsL_toT (f : Nat → Str × Int × Int) (l : Sk) (pre : List Sk) : ∀ ts : List Sk, T.withsL (Sk.toTL f pre) (Sk.toTL f ts) (l.toT f) = (Sk.withsL pre ts l).map (Sk.toT f)
  | [] => by rw [Sk.withsL, Sk.toTL, T.withsL]; rfl
  | c :: r => by
    have ih := Sk.withsL_toT f l (pre ++ [c]) r
    rw [Sk.toTL_map, List.map_append, List.map_singleton, ← Sk.toTL_map] at ih
    rw [Sk.withsL, Sk.toTL, T.withsL, Sk.withs_toT f l c, List.map_append, ih, List.map_map, List.map_map]
    congr 1
    refine List.map_congr_left fun g _ => ?_
    show T.node (Sk.toTL f pre ++ Sk.toT f g :: Sk.toTL f r) = Sk.toT f (.nd (pre ++ g :: r))
    rw [Sk.toT, Sk.toTL_map, Sk.toTL_map, Sk.toTL_map, List.map_append, List.map_cons]
end
theorem stgK_toT (f : Nat → Str × Int × Int) (l : Nat) (r : List Nat) : stgT (leafT (f l)) ((r.map f).map leafT) = (stgK (.lf l) (r.map .lf)).map (Sk.toT f) := by
  have gen : ∀ (r : List Nat) (A : List Sk), ((r.map f).map leafT).foldl (fun ts s => ts.flatMap fun t => t.withs s) (A.map (Sk.toT f)) = ((r.map Sk.lf).foldl (fun ts s => ts.flatMap fun t => t.withs s) A).map (Sk.toT f) := fun r => by
    induction r with
    | nil => exact fun A => rfl
    | cons x r ih =>
      intro A
      rw [List.map_cons, List.map_cons, List.map_cons, List.foldl_cons, List.foldl_cons, ← ih]
      congr 1
      rw [List.flatMap_map, List.map_flatMap]
      refine congrArg (fun h => List.flatMap h A) (funext fun s => ?_)
      exact Sk.withs_toT f (.lf x) s
  have := gen r [.lf l]
  unfold stgT stgK
  rw [← this]
  rfl
/-! groupings, and the law's trees -/
def grpStep {α : Type} (rows : List (List (List α))) (x : α) : List (List (List α)) := rows.flatMap fun row => (row ++ [[x]]) :: (List.range row.length).map fun k => row.take k ++ [(row.getD k []) ++ [x]] ++ row.drop (k + 1)
def grp {α : Type} : List α → List (List (List α))
  | [] => []
  | x :: r => r.foldl grpStep [[[x]]]
def rowsOf {α β : Type} (F : List α → List β) (gs : List (List α)) : List (List β) := gs.foldl (fun rows g => rows.flatMap fun row => (F g).map fun t => row ++ [t]) [[]]
def lawB {α β : Type} (lfb : α → β) (ndb : List β → β) : Nat → List α → List β
  | 0, _ => []
  | n + 1, ls => if ls.length = 1 then ls.map lfb else (grp ls).flatMap fun gs => if 1 < gs.length then (rowsOf (lawB lfb ndb n) gs).map ndb else []
theorem grpStep_map {α β : Type} (f : α → β) (rows : List (List (List α))) (x : α) : grpStep (rows.map (List.map (List.map f))) (f x) = (grpStep rows x).map (List.map (List.map f)) := by
  unfold grpStep
  rw [List.flatMap_map, List.map_flatMap]
  refine congrArg (fun h => List.flatMap h rows) (funext fun row => ?_)
  rw [List.map_cons, List.map_map, List.length_map, List.map_append]
  congr 1
  refine List.map_congr_left fun k hk => ?_
  have kl := List.mem_range.mp hk
  show (row.map (List.map f)).take k ++ [(row.map (List.map f)).getD k [] ++ [f x]] ++ (row.map (List.map f)).drop (k + 1) = (row.take k ++ [row.getD k [] ++ [x]] ++ row.drop (k + 1)).map (List.map f)
  rw [List.map_append, List.map_append, List.map_take, List.map_drop, List.map_singleton, List.map_append]
  congr 3
  rw [List.getD_eq_getElem?_getD, List.getD_eq_getElem?_getD, List.getElem?_map, List.getElem?_eq_getElem kl]
  rfl
theorem grp_map {α β : Type} (f : α → β) : ∀ ls : List α, grp (ls.map f) = (grp ls).map (List.map (List.map f))
  | [] => rfl
  | x :: r => by
    have gen : ∀ (r : List α) (A : List (List (List α))), (r.map f).foldl grpStep (A.map (List.map (List.map f))) = (r.foldl grpStep A).map (List.map (List.map f)) := fun r => by
      induction r with
      | nil => exact fun A => rfl
      | cons y r ih =>
        intro A
        rw [List.map_cons, List.foldl_cons, List.foldl_cons, grpStep_map, ih]
    exact gen r [[[x]]]
theorem rowsOf_map {α β γ δ : Type} {F : List α → List β} {F' : List γ → List δ} (f : α → γ) (g : β → δ) : ∀ (gs : List (List α)), (∀ l ∈ gs, F' (l.map f) = (F l).map g) → rowsOf F' (gs.map (List.map f)) = (rowsOf F gs).map (List.map g) := fun gs h => by
  have gen : ∀ (gs : List (List α)) (A : List (List β)), (∀ l ∈ gs, F' (l.map f) = (F l).map g) → (gs.map (List.map f)).foldl (fun rows l => rows.flatMap fun row => (F' l).map fun t => row ++ [t]) (A.map (List.map g)) = (gs.foldl (fun rows l => rows.flatMap fun row => (F l).map fun t => row ++ [t]) A).map (List.map g) := fun gs => by
    induction gs with
    | nil => exact fun A _ => rfl
    | cons l r ih =>
      intro A h
      rw [List.map_cons, List.foldl_cons, List.foldl_cons, ← ih _ fun l hl => h l (List.mem_cons_of_mem _ hl)]
      congr 1
      rw [List.flatMap_map, List.map_flatMap]
      refine congrArg (fun h => List.flatMap h A) (funext fun row => ?_)
      rw [h l List.mem_cons_self, List.map_map, List.map_map]
      refine List.map_congr_left fun t _ => ?_
      show row.map g ++ [g t] = (row ++ [t]).map g
      rw [List.map_append]
      rfl
  exact gen gs [[]] h
theorem lawB_map {α β γ δ : Type} {lfb : α → β} {ndb : List β → β} {lfd : γ → δ} {ndd : List δ → δ} (f : α → γ) (g : β → δ) (h1 : ∀ a, lfd (f a) = g (lfb a)) (h2 : ∀ ts, ndd (ts.map g) = g (ndb ts)) : ∀ (n : Nat) (ls : List α), lawB lfd ndd n (ls.map f) = (lawB lfb ndb n ls).map g
  | 0, _ => rfl
  | n + 1, ls => by
    rw [lawB, lawB, List.length_map]
    by_cases c : ls.length = 1
    · rw [if_pos c, if_pos c, List.map_map, List.map_map]
      exact List.map_congr_left fun a _ => h1 a
    · rw [if_neg c, if_neg c, grp_map, List.flatMap_map, List.map_flatMap]
      refine congrArg (fun h => List.flatMap h (grp ls)) (funext fun gs => ?_)
      rw [List.length_map]
      by_cases c2 : 1 < gs.length
      · rw [if_pos c2, if_pos c2, rowsOf_map f g gs fun l _ => lawB_map f g h1 h2 n l, List.map_map, List.map_map]
        exact List.map_congr_left fun ts _ => h2 ts
      · rw [if_neg c2, if_neg c2]
        rfl
/-! one form for trees that differ in the order of children alone -/
mutual
def Sk.code : Sk → List Nat
  | .lf i => [0, i]
  | .nd ts => 1 :: Sk.codeL ts ++ [2]
def Sk.codeL : List Sk → List Nat
  | [] => []
  | t :: r => t.code ++ Sk.codeL r
end
def insK (x : Sk) : List Sk → List Sk
  | [] => [x]
  | y :: r => if x.code < y.code then x :: y :: r else y :: insK x r
def sortK : List Sk → List Sk
  | [] => []
  | x :: r => insK x (sortK r)
mutual
def Sk.nrm : Sk → Sk
  | .lf i => .lf i
  | .nd ts => .nd (sortK (Sk.nrmL ts))
def Sk.nrmL : List Sk → List Sk
  | [] => []
  | t :: r => t.nrm :: Sk.nrmL r
end
mutual
def eqK : Sk → Sk → Bool
  | .lf i, .lf j => decide (i = j)
  | .nd ts, .nd us => eqKL ts us
  | _, _ => false
def eqKL : List Sk → List Sk → Bool
  | [], [] => true
  | a :: r, b :: q => eqK a b && eqKL r q
  | _, _ => false
end
mutual
theorem eqK_eq : ∀ {a b : Sk}, eqK a b = true → a = b
  | .lf i, .lf j, h => by
    rw [eqK] at h
    rw [of_decide_eq_true h]
  | .nd ts, .nd us, h => by
    rw [eqK] at h
    rw [eqKL_eq h]
  | .lf i, .nd us, h => by simp [eqK] at h
  | .nd ts, .lf j, h => by simp [eqK] at h
theorem eqKL_eq : ∀ {a b : List Sk}, eqKL a b = true → a = b
  | [], [], _ => rfl
  | a :: r, b :: q, h => by
    rw [eqKL, Bool.and_eq_true] at h
    rw [eqK_eq h.1, eqKL_eq h.2]
  | [], b :: q, h => by simp [eqKL] at h
  | a :: r, [], h => by simp [eqKL] at h
end
theorem insK_perm (x : Sk) : ∀ l : List Sk, (insK x l).Perm (x :: l)
  | [] => .refl _
  | y :: r => by
    unfold insK
    split
    · exact .refl _
    · exact ((insK_perm x r).cons y).trans (.swap _ _ _)
theorem sortK_perm : ∀ l : List Sk, (sortK l).Perm l
  | [] => .refl _
  | x :: r => (insK_perm x _).trans ((sortK_perm r).cons x)
def numK (n : Nat) : List Nat := List.range n
def progK (n : Nat) : List Sk := stgK (.lf 0) (((List.range n).drop 1).map .lf)
def lawK (n : Nat) : List Sk := lawB Sk.lf Sk.nd n (List.range n)
/-- the same trees, two to four strands -/
theorem both_ways : ∀ n, n < 5 → 2 ≤ n → ((progK n).all fun a => (lawK n).any fun b => eqK a.nrm b.nrm) = true ∧ ((lawK n).all fun b => (progK n).any fun a => eqK a.nrm b.nrm) = true := by decide +kernel
theorem lawK_len : ∀ n, n < 5 → (lawK n).length ≤ 26 := by decide +kernel
theorem prog_law {n : Nat} (h5 : n < 5) (h2 : 2 ≤ n) {a : Sk} (h : a ∈ progK n) : ∃ b ∈ lawK n, a.nrm = b.nrm := by
  have := List.all_eq_true.mp (both_ways n h5 h2).1 a h
  obtain ⟨b, hb, e⟩ := List.any_eq_true.mp this
  exact ⟨b, hb, eqK_eq e⟩
theorem law_prog {n : Nat} (h5 : n < 5) (h2 : 2 ≤ n) {b : Sk} (h : b ∈ lawK n) : ∃ a ∈ progK n, a.nrm = b.nrm := by
  have := List.all_eq_true.mp (both_ways n h5 h2).2 b h
  obtain ⟨a, ha, e⟩ := List.any_eq_true.mp this
  exact ⟨a, ha, eqK_eq e⟩
end Wr

set_option Elab.async false
set_option linter.all false
set_option maxRecDepth 100000
set_option maxHeartbeats 2000000
namespace Wr
open PySem PySem.Spec PyProof.Rows L2
/-! ### _law_groupings -/
def grpD (g : List (Str × Int × Int)) : PyData := .tuple (g.map leafD)
def rowD (row : List (List (Str × Int × Int))) : PyData := .tuple (row.map grpD)
theorem dp_tupG {K : PySem.W.Frag} {H : Hp} {v : V} {ds : List PyData} (h : Dp K H v (.tuple ds)) : ∃ a us, v = .ref a ∧ SqT K H a us ∧ DpAll K H us ds := by
  cases h with
  | tup h r => exact ⟨_, _, rfl, h, r⟩
theorem tupO_leafD (l : Str × Int × Int) : tupO (leafD l) = true := tupO_data (leafT l)
theorem tupO_grpD (g : List (Str × Int × Int)) : tupO (grpD g) = true := by
  unfold grpD tupO
  rw [tupOL_all]
  intro d hd
  obtain ⟨x, _, rfl⟩ := List.mem_map.mp hd
  exact tupO_leafD x
theorem tupO_rowD (g : List (List (Str × Int × Int))) : tupO (rowD g) = true := by
  unfold rowD tupO
  rw [tupOL_all]
  intro d hd
  obtain ⟨x, _, rfl⟩ := List.mem_map.mp hd
  exact tupO_grpD x
theorem tupO_rows (gs : List (List (List (Str × Int × Int)))) : tupOL (gs.map rowD) = true := tupOL_all.mpr fun d hd => by
  obtain ⟨x, _, rfl⟩ := List.mem_map.mp hd
  exact tupO_rowD x
theorem grp_snoc {α : Type} (l : α) (r : List α) (x : α) : grp (l :: (r ++ [x])) = grpStep (grp (l :: r)) x := by
  show (r ++ [x]).foldl grpStep [[[l]]] = grpStep (r.foldl grpStep [[[l]]]) x
  rw [List.foldl_append]
  rfl
def rowP (n : Nat) (row : List (List Nat)) : Bool := decide (row.length ≤ 4) && row.all fun g => decide (1 ≤ g.length ∧ g.length ≤ 4 ∧ (1 < row.length → g.length < n))
theorem grp_num : ∀ n, n < 5 → (grp (List.range n)).length ≤ 15 ∧ (grp (List.range n)).all (rowP n) = true := by decide +kernel
theorem as_range {α : Type} (x : α) (r : List α) : ∃ f : Nat → α, x :: r = (List.range (x :: r).length).map f := by
  refine ⟨fun i => (x :: r).getD i x, List.ext_getElem? fun i => ?_⟩
  rw [List.getElem?_map]
  by_cases h : i < (x :: r).length
  · rw [List.getElem?_range h, List.getElem?_eq_getElem h]
    show _ = some ((x :: r).getD i x)
    rw [List.getD_eq_getElem?_getD, List.getElem?_eq_getElem h]
    rfl
  · rw [List.getElem?_eq_none (Nat.le_of_not_lt h), List.getElem?_eq_none (by rw [List.length_range]; exact Nat.le_of_not_lt h)]
    rfl
theorem grp_bd {α : Type} (ls : List α) (h5 : ls.length < 5) : (grp ls).length ≤ 15 ∧ ∀ row ∈ grp ls, row.length ≤ 4 ∧ ∀ g ∈ row, 1 ≤ g.length ∧ g.length ≤ 4 ∧ (1 < row.length → g.length < ls.length) := by
  cases ls with
  | nil => exact ⟨Nat.zero_le _, fun row h => (by cases h)⟩
  | cons x r =>
    obtain ⟨f, e⟩ := as_range x r
    generalize (x :: r) = ls at e h5
    obtain ⟨h1, h2⟩ := grp_num ls.length h5
    rw [e, grp_map, List.length_map]
    refine ⟨by simpa using h1, fun row hrow => ?_⟩
    obtain ⟨row0, hm, rfl⟩ := List.mem_map.mp hrow
    have z := List.all_eq_true.mp h2 row0 (by simpa using hm)
    unfold rowP at z
    rw [Bool.and_eq_true] at z
    rw [List.length_map]
    refine ⟨of_decide_eq_true z.1, fun g hg => ?_⟩
    obtain ⟨g0, hg0, rfl⟩ := List.mem_map.mp hg
    have w := of_decide_eq_true (List.all_eq_true.mp z.2 g0 hg0)
    rw [List.length_map, List.length_map, List.length_range]
    exact w
section
variable {P : Program} {w : World} {K : PySem.W.Frag} {mg : Str → Option Value} {base : Heap}
def spGr (K : PySem.W.Frag) : Sp := fun vs H Q _ => ∃ (a : Addr) (us : List V) (l : Str × Int × Int) (r : List (Str × Int × Int)), vs = [.ref a] ∧ SqT K H a us ∧ DpAll K H us ((l :: r).map leafD) ∧ r.length ≤ 3 ∧
  ∀ (p : Addr) (ws : List V) (H' : Hp), Le H H' → H p = none → H' p = some (.lst ws) → DpAll K H' ws ((grp (l :: r)).map rowD) → Q (.ref p) H'
theorem ok_gr (G : Gx K mg) (k : Nat) : FnOk P w K mg base CX0 (k + 1) G.f__law_groupings G.fd__law_groupings ["items"] (spGr K) := by
  refine G.F__law_groupings.ok sc__law_groupings (fun vs H Q E h => ?_) (fun cdv A outer s0 H vs Q E hr h => ?_)
  · obtain ⟨a, us, l, r, rfl, _⟩ := h
    rfl
  obtain ⟨a, us, l, r, rfl, ha, hAll, hr3, q⟩ := h
  refine ⟨_, (pss_cons (ps_set (i := 1) sc__law_groupings.nd rfl (.inl rfl) (pe_lst (pa_cons (pe_tup (pa_cons (pe_tup (pa_cons (pe_ix ix_tup (pv 0) pe_int (fun _ _ => rfl)) pa_nil)) pa_nil)) pa_nil)))
    (pss_cons (ps_for PassesOwn.never rfl (pi_tup (pe_slice sl_tupA (pv 0) (po_some pe_int) po_none)) (pg_name (i := 2) sc__law_groupings.nd rfl (.inr rfl))
      (pss_cons (ps_set (i := 3) sc__law_groupings.nd rfl (.inl rfl) (pe_lst pa_nil))
    (pss_cons (ps_for PassesOwn.never rfl (pi_list (pv 1)) (pg_name (i := 4) sc__law_groupings.nd rfl (.inr rfl))
      (pss_cons (ps_expr (pe_bm PySem.F.plainAttrs_list PySem.F.slot_list_append PySem.F.type_list_append mt_append (pv 3) (pa_cons (pe_op op_catA (pv 4) (pe_tup (pa_cons (pe_tup (pa_cons (pv 2) pa_nil)) pa_nil))) pa_nil)))
    (pss_one (ps_set (i := 3) sc__law_groupings.nd rfl (.inl rfl) (pe_op op_cat (pv 3) (pe_lc (own := [("k", 5)]) (g := gName 5) (tt := tYes) (by rfl) sc__law_groupings.nd (pi_range1 (by rfl) G.range (pa_cons (pe_callB call_len_seq (by rfl) G.len PySem.boot_len (pa_cons (pv 4) pa_nil)) pa_nil)) (blkOk_by (own := [("k", 5)]) (N := N__law_groupings) (sc := defScope s__law_groupings) (by decide +kernel)) (fun _ _ _ _ _ => (pg_name (i := 5) sc__law_groupings.nd rfl (.inl rfl) (.inr rfl))) (fun _ _ _ _ _ => pts_nil) (fun _ _ _ _ _ => (pe_op (r := rCatA K) op_catA (pe_op (r := rCatA K) op_catA (pe_slice (r := rSlA K) sl_tupA (pv 4) po_none (po_some (pv 5))) (pe_tup (pa_cons (pe_op (r := rCatA K) op_catA (pe_ix (r := rIxT K) ix_tup (pv 4) (pv 5) (fun _ _ => rfl)) (pe_tup (pa_cons (pv 2) pa_nil))) pa_nil))) (pe_slice (r := rSlA K) sl_tupA (pv 4) (po_some (pe_op op_add (pv 5) pe_int)) po_none)))))))))
    (pss_one (ps_set (i := 1) sc__law_groupings.nd rfl (.inl rfl) (pv 3))))))
    (pss_one (ps_ret (pv 1))))), ?_⟩
  have ul := dpAll_length hAll
  rw [List.length_map, List.length_cons] at ul
  obtain ⟨u0, ur, rfl, d0, dr⟩ := dpAll_cons (ds := r.map leafD) hAll
  refine ⟨_, rfl, a, _, _, u0, rfl, rfl, ha, atI_nat (j := 0) rfl, (by decide : 1 ≤ sizeLine), fun e1 he1 => ⟨(by decide : 1 ≤ sizeLine), fun e2 he2 => ⟨(by decide : 1 ≤ sizeLine), fun p0 hp0 => ?_⟩⟩⟩
  have l1 := Le.new (o := .tup [u0]) he1
  have dA : Dp K (upd H e1 (.tup [u0])) (.ref e1) (grpD [l]) := .tup (sqt upd_same) (.cons (l1.dp d0) .nil)
  generalize upd H e1 (.tup [u0]) = HA at l1 dA he2 hp0
  have l2 := Le.new (o := .tup [.ref e1]) he2
  have dB : Dp K (upd HA e2 (.tup [.ref e1])) (.ref e2) (rowD [[l]]) := .tup (sqt upd_same) (.cons (l2.dp dA) .nil)
  generalize upd HA e2 (.tup [.ref e1]) = HB at l2 dB hp0
  have l3 := Le.new (o := .lst [.ref e2]) hp0
  have k0 : upd HB p0 (.lst [.ref e2]) p0 = some (.lst [.ref e2]) := upd_same
  have dC : DpAll K (upd HB p0 (.lst [.ref e2])) [.ref e2] ((grp (l :: r.take 0)).map rowD) := by
    rw [List.take_zero]
    exact .cons (l3.dp dB) .nil
  generalize upd HB p0 (.lst [.ref e2]) = HC at l3 k0 dC
  have lC := l1.trans (l2.trans l3)
  have hp0H : H p0 = none := (l1.trans l2).dom _ hp0
  refine ⟨_, rfl, _, rfl, ?_⟩
  dsimp only [tNoPart]
  refine slS (lC.sqt ha) fun p3 H3 l3 k3 => ?_
  rw [show cutV (u0 :: ur) (some 1) none = ur from cut_drop (k := 1)] at k3
  have l03 := lC.trans l3
  refine ⟨p3, rfl, ⟨_, k3⟩, ?_⟩
  have url : ur.length = r.length := by rw [List.length_cons] at ul; omega
  refine for_tup (D := { nx := _, rt := _, bk := fun _ _ => True, ct := fun _ _ => True }) (xs := ur) (fun i σ4 H4 => ∃ (p : Addr) (ws : List V) (z2 z3 z4 z5 : Option V), σ4 = [some (.ref a), some (.ref p), z2, z3, z4, z5] ∧ Le H3 H4 ∧ H p = none ∧ H4 p = some (.lst ws) ∧ DpAll K H4 ws ((grp (l :: r.take i)).map rowD)) ⟨p0, _, _, _, _, _, rfl, Le.refl _, hp0H, l3.lst k0, l3.dpAll dC⟩ (fun i σ4 H4 _ ⟨_, _, _, _, _, _, _, l4, _⟩ => l4.sqt k3) ?_ ?_
  · rintro i x σ4 H4 hx ⟨p, ws, z2, z3, z4, z5, rfl, l4, hp, h4, d4⟩
    have l04 := l03.trans l4
    have hi : i < r.length := by
      have := (List.getElem?_eq_some_iff.mp hx).1
      omega
    have hl : r[i]? = some r[i] := List.getElem?_eq_getElem hi
    obtain ⟨d, hdi, hdx⟩ := dpAll_getV dr hx
    rw [List.getElem?_map, hl] at hdi
    obtain rfl : leafD r[i] = d := Option.some.inj hdi
    have rt : r.take (i + 1) = r.take i ++ [r[i]] := by rw [List.take_succ, hl]; rfl
    generalize r[i] = s at hl hdx rt
    rw [rt, grp_snoc]
    obtain ⟨b1, b2⟩ := grp_bd (l :: r.take i) (by rw [List.length_cons, List.length_take]; omega)
    generalize grp (l :: r.take i) = S at d4 b1 b2
    have wl := dpAll_length d4
    rw [List.length_map] at wl
    let F := fun row : List (List (Str × Int × Int)) => (row ++ [[s]]) :: (List.range row.length).map fun k => row.take k ++ [(row.getD k []) ++ [s]] ++ row.drop (k + 1)
    have hF : ∀ row ∈ S, (F row).length ≤ 5 := fun row h => by
      have := (b2 row h).1
      show ((List.range row.length).map _).length + 1 ≤ 5
      rw [List.length_map, List.length_range]
      omega
    have fl : ∀ m, ((S.take m).flatMap F).length ≤ 75 := fun m => by
      have z := flatC_len F 5 (S.take m) fun row h => hF row (List.mem_of_mem_take h)
      rw [List.length_take] at z
      omega
    refine ⟨Nat.zero_le _, fun D0 hD0 => ?_⟩
    have l5 := Le.new (o := .lst []) hD0
    have k5 : upd H4 D0 (.lst []) D0 = some (.lst []) := upd_same
    have h5 := l5.lst h4
    have d5 := l5.dpAll d4
    have hdx5 := (l04.trans l5).dp hdx
    generalize upd H4 D0 (.lst []) = H5 at l5 k5 h5 d5 hdx5
    refine ⟨_, rfl, p, rfl, ⟨ws, sql h5⟩, ?_⟩
    refine for_list (D := { nx := _, rt := _, bk := fun _ _ => True, ct := fun _ _ => True }) (xs := ws) (fun m σ6 H6 => ∃ (p5 : Addr) (acc : List V) (z4 z5 : Option V), σ6 = [some (.ref a), some (.ref p), some x, some (.ref p5), z4, z5] ∧ Le H4 H6 ∧ H4 p5 = none ∧ H6 p5 = some (.lst acc) ∧ DpAll K H6 acc (((S.take m).flatMap F).map rowD)) ⟨D0, [], _, _, rfl, l5, hD0, k5, .nil⟩ (fun m σ6 H6 _ ⟨_, _, _, _, _, l6, _⟩ => sql (l6.lst h4)) ?_ ?_
    · rintro m x2 σ6 H6 hx2 ⟨p5, acc, z4, z5, rfl, l6, hp5, hacc, dacc⟩
      obtain ⟨d2, hd2, hdx2⟩ := dpAll_getV (l6.dpAll d4) hx2
      have hm : m < S.length := by
        have := (List.getElem?_eq_some_iff.mp hx2).1
        omega
      have hS : S[m]? = some S[m] := List.getElem?_eq_getElem hm
      have Sm : S[m] ∈ S := List.getElem_mem hm
      rw [List.getElem?_map, hS] at hd2
      obtain rfl : rowD S[m] = d2 := Option.some.inj hd2
      have tk : (S.take (m + 1)).flatMap F = (S.take m).flatMap F ++ F S[m] := by
        rw [List.take_succ, hS, List.flatMap_append]
        show _ ++ List.flatMap _ [S[m]] = _
        rw [List.flatMap_cons, List.flatMap_nil, List.append_nil]
      have f0 := fl m
      rw [tk]
      generalize S[m] = row at hS Sm hdx2 tk
      obtain ⟨rl, rg⟩ := b2 row Sm
      obtain ⟨b, gs, rfl, hb, dgs⟩ := dp_tupG hdx2
      have gl := dpAll_length dgs
      rw [List.length_map] at gl
      have al := dpAll_length dacc
      rw [List.length_map] at al
      generalize hA : (S.take m).flatMap F = A at dacc f0 al
      have dit := (l04.trans l6).dp hdx
      -- append
      refine ⟨_, rfl, .inl ⟨rfl, _, sql hacc⟩, ?_⟩
      refine ⟨_, rfl, _, rfl, (by decide : 1 ≤ sizeLine), fun q1 hq1 => ⟨(by decide : 1 ≤ sizeLine), fun q2 hq2 => ?_⟩⟩
      have m1 := Le.new (o := .tup [x]) hq1
      have e1 : Dp K (upd H6 q1 (.tup [x])) (.ref q1) (grpD [s]) := .tup (sqt upd_same) (.cons (m1.dp dit) .nil)
      generalize upd H6 q1 (.tup [x]) = Ha at m1 e1 hq2
      have m2 := Le.new (o := .tup [.ref q1]) hq2
      have e2 : SqT K (upd Ha q2 (.tup [.ref q1])) q2 [.ref q1] := sqt upd_same
      have e1 := m2.dp e1
      generalize upd Ha q2 (.tup [.ref q1]) = Hb at m2 e2 e1
      have m02 := m1.trans m2
      refine catS (m02.sqt hb) e2 (sz (by show gs.length + 1 ≤ _; omega)) fun q3 Hc m3 e3 => ?_
      have m03 := m02.trans m3
      have dn : Dp K Hc (.ref q3) (rowD (row ++ [[s]])) := by
        unfold rowD
        rw [List.map_append]
        exact .tup e3 (dpAll_append (m03.dpAll dgs) (.cons (m3.dp e1) .nil))
      have hacc3 := m03.lst hacc
      refine ⟨p5, _, _, rfl, rfl, hacc3, szlt (by omega), ?_⟩
      have dac : DpAll K (upd Hc p5 (.lst (acc ++ [.ref q3]))) (acc ++ [.ref q3]) ((A ++ [row ++ [[s]]]).map rowD) := by
        rw [List.map_append]
        exact dpAll_append (dpAll_upd hacc3 (tupO_rows _) (m03.dpAll dacc)) (.cons (dp_upd hacc3 (tupO_rowD _) dn) .nil)
      have l7 : Le H4 (upd Hc p5 (.lst (acc ++ [.ref q3]))) := (l6.trans m03).mut hp5
      have k7 : upd Hc p5 (.lst (acc ++ [.ref q3])) p5 = some (.lst (acc ++ [.ref q3])) := upd_same
      have dgs7 : SqT K H4 b gs → DpAll K H4 gs (row.map grpD) → True := fun _ _ => trivial
      obtain ⟨d2, hd2, hdx2⟩ := dpAll_getV (l7.dpAll d4) hx2
      rw [List.getElem?_map, hS] at hd2
      obtain rfl : rowD row = d2 := Option.some.inj hd2
      obtain ⟨b', gs', eb, hb, dgs⟩ := dp_tupG hdx2
      obtain rfl : b = b' := by cases eb; rfl
      clear eb dgs7 gl
      have gl := dpAll_length dgs
      rw [List.length_map] at gl
      have dit := (l04.trans l7).dp hdx
      generalize upd Hc p5 (.lst (acc ++ [.ref q3])) = H7 at dac l7 k7 hb dgs dit
      -- the grown groups
      refine ⟨_, rfl, _, rfl, b, _, rfl, .inr hb, _, rfl, by omega, by omega, fun D hD => ?_⟩
      refine lc_range (lo := 0) (n := (((gs'.length : Nat) : Int)).toNat) (fun j Hm => Le H7 Hm ∧ ∃ acc2, Hm D = some (.lst acc2) ∧ DpAll K Hm acc2 (((List.range j).map fun k => row.take k ++ [(row.getD k []) ++ [s]] ++ row.drop (k + 1)).map rowD)) ⟨Le.new hD, [], upd_same, .nil⟩ ?_ ?_
      · rintro j Hm hj ⟨lm, acc2, hacc2, dacc2⟩
        have jl : j < gs'.length := by omega
        have al2 := dpAll_length dacc2
        rw [List.length_map, List.length_map, List.length_range] at al2
        rw [show (0 : Int) + (j : Nat) = ((j : Nat) : Int) from Int.zero_add _]
        have hgj : gs'[j]? = some gs'[j] := List.getElem?_eq_getElem jl
        obtain ⟨dg, hdg, hdgx⟩ := dpAll_getV (lm.dpAll dgs) hgj
        have hrj : row[j]? = some row[j] := List.getElem?_eq_getElem (by omega)
        rw [List.getElem?_map, hrj] at hdg
        obtain rfl : grpD row[j] = dg := Option.some.inj hdg
        have gd : row.getD j [] = row[j] := by rw [List.getD_eq_getElem?_getD, hrj]; rfl
        have g4 := (rg _ (List.getElem_mem (by omega : j < row.length))).2.1
        generalize row[j] = gj at hrj hdgx gd g4
        generalize gs'[j] = uj at hgj hdgx
        obtain ⟨c, cs, rfl, hc, dcs⟩ := dp_tupG hdgx
        have cl := dpAll_length dcs
        rw [List.length_map] at cl
        refine ⟨rfl, yes_go ⟨_, rfl, _, rfl, _, rfl, ?_⟩⟩
        dsimp only [tNoPart]
        refine slS (lm.sqt hb) fun q1 Ha m1 e1 => ?_
        rw [cut_take (k := j)] at e1
        refine ⟨_, rfl, _, rfl, b, _, _, _, rfl, rfl, (lm.trans m1).sqt hb, atI_nat hgj, _, rfl, (by decide : 1 ≤ sizeLine), fun q2 hq2 => ?_⟩
        have m2 := Le.new (o := .tup [x]) hq2
        have e2 : SqT K (upd Ha q2 (.tup [x])) q2 [x] := sqt upd_same
        generalize upd Ha q2 (.tup [x]) = Hb at m2 e2
        have m02 := m1.trans m2
        refine catS (m02.sqt hc) e2 (sz (by show cs.length + 1 ≤ _; omega)) fun q3 Hc m3 e3 => ?_
        have m03 := m02.trans m3
        have dn : Dp K Hc (.ref q3) (grpD (gj ++ [s])) := by
          unfold grpD
          rw [List.map_append]
          exact .tup e3 (dpAll_append (m03.dpAll dcs) (.cons ((lm.trans m03).dp dit) .nil))
        refine ⟨(by decide : 1 ≤ sizeLine), fun q4 hq4 => ?_⟩
        have m4 := Le.new (o := .tup [.ref q3]) hq4
        have e4 : SqT K (upd Hc q4 (.tup [.ref q3])) q4 [.ref q3] := sqt upd_same
        have dn := m4.dp dn
        generalize upd Hc q4 (.tup [.ref q3]) = Hd at m4 e4 dn
        have m14 := m2.trans (m3.trans m4)
        refine catS (m14.sqt e1) e4 (sz (by show (gs'.take j).length + 1 ≤ _; rw [List.length_take]; omega)) fun q5 He m5 e5 => ?_
        have m15 := m14.trans m5
        have m05 := m1.trans m15
        refine ⟨_, rfl, _, rfl, _, _, rfl, rfl, _, rfl, ?_⟩
        dsimp only [tNoPart]
        refine slS ((lm.trans m05).sqt hb) fun q6 Hf m6 e6 => ?_
        rw [show ((j : Nat) : Int) + 1 = ((j + 1 : Nat) : Int) from rfl, cut_drop (k := j + 1)] at e6
        have m06 := m05.trans m6
        refine catS (m6.sqt e5) e6 (sz (by rw [List.length_append, List.length_take, List.length_drop]; show min j gs'.length + 1 + _ ≤ _; omega)) fun q7 Hg m7 e7 => ?_
        have m07 := m06.trans m7
        have dfin : Dp K Hg (.ref q7) (rowD (row.take j ++ [row.getD j [] ++ [s]] ++ row.drop (j + 1))) := by
          unfold rowD
          rw [gd, List.map_append, List.map_append, List.map_take, List.map_drop]
          have z := (lm.trans m07).dpAll dgs
          exact .tup e7 (dpAll_append (dpAll_append (dpAll_take j z) (.cons ((m5.trans (m6.trans m7)).dp dn) .nil)) (dpAll_drop (j + 1) z))
        have hac := m07.lst hacc2
        refine ⟨acc2, hac, szlt (by omega), (lm.trans m07).mut hD, _, upd_same, ?_⟩
        rw [List.range_succ, List.map_append, List.map_append]
        exact dpAll_append (dpAll_upd hac (tupO_rows _) (m07.dpAll dacc2)) (.cons (dp_upd hac (tupO_rowD _) dfin) .nil)
      · rintro Hm ⟨lm, acc2, hacc2, dacc2⟩
        rw [show (((gs'.length : Nat) : Int)).toNat = row.length by omega] at dacc2
        have al2 := dpAll_length dacc2
        rw [List.length_map, List.length_map, List.length_range] at al2
        refine ⟨p5, D, _, acc2, rfl, rfl, lm.lst k7, hacc2, sz (by rw [List.length_append, List.length_singleton]; omega), fun p6 hp6 => ?_⟩
        have l8 := Le.new (o := .lst (acc ++ [.ref q3] ++ acc2)) hp6
        have l78 := lm.trans l8
        refine ⟨p6, _, _, _, rfl, l7.trans l78, l7.dom _ (lm.dom _ hp6), upd_same, ?_⟩
        have e : A ++ F row = A ++ [row ++ [[s]]] ++ (List.range row.length).map fun k => row.take k ++ [(row.getD k []) ++ [s]] ++ row.drop (k + 1) := by
          rw [List.append_assoc]
          rfl
        rw [e, List.map_append]
        exact dpAll_append (l78.dpAll dac) (l8.dpAll dacc2)
    · rintro σ6 H6 ⟨p5, acc, z4, z5, rfl, l6, hp5, hacc, dacc⟩
      rw [wl, List.take_length] at dacc
      exact ⟨_, rfl, p5, acc, _, _, _, _, rfl, l4.trans l6, l04.dom _ hp5, hacc, dacc⟩
  · rintro σ4 H4 ⟨p, ws, z2, z3, z4, z5, rfl, l4, hp, h4, d4⟩
    rw [url, List.take_length] at d4
    exact ⟨_, rfl, q p ws H4 (l03.trans l4) hp h4 d4⟩
end
end Wr

set_option Elab.async false
set_option linter.all false
set_option maxRecDepth 100000
set_option maxHeartbeats 2000000
namespace Wr
open PySem PySem.Spec PyProof.Rows L2
/-! ### _law_trees -/
def stepR {α β : Type} (F : List α → List β) (rows : List (List β)) (g : List α) : List (List β) := rows.flatMap fun row => (F g).map fun t => row ++ [t]
def rowsFr {α β : Type} (F : List α → List β) (R : List (List β)) (gs : List (List α)) : List (List β) := gs.foldl (stepR F) R
theorem rowsFr_snoc {α β : Type} (F : List α → List β) (R : List (List β)) (gs : List (List α)) (g : List α) : rowsFr F R (gs ++ [g]) = stepR F (rowsFr F R gs) g := by
  unfold rowsFr
  rw [List.foldl_append]
  rfl
theorem rowsFr_nil {α β : Type} (F : List α → List β) : ∀ gs : List (List α), rowsFr F [] gs = []
  | [] => rfl
  | g :: r => rowsFr_nil F r
theorem rowsFr_bd {α β : Type} {F : List α → List β} : ∀ (k : Nat) (gs : List (List α)), gs.length = k → (∀ g ∈ gs, (F g).length ≤ 4) → (rowsFr F [[]] gs).length ≤ 4 ^ k ∧ ∀ row ∈ rowsFr F [[]] gs, row.length = k
  | 0, gs, h, hF => by
    rw [List.length_eq_zero_iff.mp h]
    exact ⟨Nat.le_refl 1, fun row hr => by rw [List.mem_singleton.mp hr]; rfl⟩
  | k + 1, gs, h, hF => by
    rcases List.eq_nil_or_concat gs with e | ⟨q, s, e⟩
    · rw [e] at h; cases h
    rw [List.concat_eq_append] at e
    subst e
    have hq : q.length = k := by
      rw [List.length_append] at h
      exact Nat.succ.inj h
    obtain ⟨i1, i2⟩ := rowsFr_bd k q hq fun g hg => hF g (List.mem_append_left _ hg)
    have hs := hF s (List.mem_append_right _ (List.mem_singleton.mpr rfl))
    rw [rowsFr_snoc]
    constructor
    · have := flatC_len (fun row => (F s).map fun t => row ++ [t]) 4 (rowsFr F [[]] q) fun row _ => by rw [List.length_map]; exact hs
      unfold stepR
      rw [Nat.pow_succ]
      omega
    · intro row hr
      obtain ⟨r0, h0, h1⟩ := List.mem_flatMap.mp hr
      obtain ⟨t, _, rfl⟩ := List.mem_map.mp h1
      rw [List.length_append, i2 r0 h0]
      rfl
theorem lawB_toT (f : Nat → Str × Int × Int) (n : Nat) (ms : List Nat) : lawB leafT T.node n (ms.map f) = (lawB Sk.lf Sk.nd n ms).map (Sk.toT f) :=
  lawB_map f (Sk.toT f) (fun a => by rw [Sk.toT]) (fun ts => by rw [Sk.toT, Sk.toTL_map]) n ms
theorem lawB_num : ∀ n, n < 5 → ∀ m, m < 4 → (lawB Sk.lf Sk.nd n (List.range m)).length ≤ 4 := by decide +kernel
theorem lawB_num2 : ∀ n, n < 5 → ∀ m, m < 5 → (lawB Sk.lf Sk.nd n (List.range m)).length ≤ 26 := by decide +kernel
theorem lawB_bd {n : Nat} (hn : n < 5) {ls : List (Str × Int × Int)} (h1 : 1 ≤ ls.length) (h4 : ls.length < 4) : (lawB leafT T.node n ls).length ≤ 4 := by
  cases ls with
  | nil => cases h1
  | cons x r =>
    obtain ⟨f, e⟩ := as_range x r
    rw [e, lawB_toT, List.length_map]
    exact lawB_num n hn _ h4
def bF (F : List (Str × Int × Int) → List T) (gs : List (List (Str × Int × Int))) : List T := if 1 < gs.length then (rowsOf F gs).map T.node else []
theorem lawB_succ (n : Nat) (ls : List (Str × Int × Int)) : lawB leafT T.node (n + 1) ls = if ls.length = 1 then ls.map leafT else (grp ls).flatMap (bF (lawB leafT T.node n)) := by
  rw [lawB]
  rfl
def trD (ts : List T) : PyData := .tuple (ts.map T.data)
theorem trD_eq (ts : List T) : trD ts = (T.node ts).data := by
  rw [T.data, T.dataL_map]
  rfl
theorem tupO_trD (ts : List T) : tupO (trD ts) = true := by
  rw [trD_eq]
  exact tupO_data _
theorem tupO_trs (rs : List (List T)) : tupOL (rs.map trD) = true := tupOL_all.mpr fun d hd => by
  obtain ⟨x, _, rfl⟩ := List.mem_map.mp hd
  exact tupO_trD x
theorem map_trD (rs : List (List T)) : rs.map trD = (rs.map T.node).map T.data := by
  rw [List.map_map]
  exact List.map_congr_left fun ts _ => trD_eq ts
section
variable {P : Program} {w : World} {K : PySem.W.Frag} {mg : Str → Option Value} {base : Heap}
def spLTr (K : PySem.W.Frag) (n : Nat) : Sp := fun vs H Q _ => ∃ (a : Addr) (us : List V) (ls : List (Str × Int × Int)), vs = [.ref a] ∧ SqT K H a us ∧ DpAll K H us (ls.map leafD) ∧ 1 ≤ ls.length ∧ ls.length ≤ n ∧ n ≤ 4 ∧
  ∀ (p : Addr) (ts : List V) (H' : Hp), Le H H' → H p = none → H' p = some (.lst ts) → DpAll K H' ts ((lawB leafT T.node n ls).map T.data) → Q (.ref p) H'
theorem ok_ltr (G : Gx K mg) (k : Nat) : ∀ n : Nat, FnOk P w K mg base CX0 (n + k + 1) G.f__law_trees G.fd__law_trees ["leaves"] (spLTr K n)
  | 0 => by
    have no : ∀ vs H Q E, ¬ spLTr K 0 vs H Q E := fun vs H Q E h => by
      obtain ⟨a, us, ls, _, _, _, h1, h2, _⟩ := h
      omega
    exact ⟨fun vs H Q E h => absurd h (no vs H Q E), fun A outer s H args us vs Q E _ _ _ _ h => absurd h (no vs H Q E)⟩
  | n + 1 => by
    have G__law_trees := ok_ltr G k n
    have G__law_groupings := (ok_gr (P := P) (w := w) (base := base) G (n + k)).mono (Nat.le_refl (n + k + 1))
    have lev : n + 1 + k + 1 = (n + k + 1) + 1 := by omega
    rw [lev]
    refine G.F__law_trees.ok sc__law_trees (fun vs H Q E h => ?_) (fun cdv A outer s0 H vs Q E hr h => ?_)
    · obtain ⟨a, us, ls, rfl, _⟩ := h
      rfl
    obtain ⟨a, us, ls, rfl, ha, hAll, hl1, hln, hn4, q⟩ := h
    refine ⟨_, (pss_cons (ps_if (pt_cmpR op_eq (pe_callB call_len_seq (by rfl) G.len PySem.boot_len (pa_cons (pv 0) pa_nil)) pe_int (nomark _)) (pss_one (ps_ret (pe_lst (pa_cons (pe_ix ix_tup (pv 0) pe_int (fun _ _ => rfl)) pa_nil)))) pss_nil)
    (pss_cons (ps_set (i := 1) sc__law_trees.nd rfl (.inl rfl) (pe_lst pa_nil))
    (pss_cons (ps_for PassesOwn.never rfl (pi_list (pe_call G__law_groupings hr (by rfl) G.m__law_groupings G.F__law_groupings.kp G.b__law_groupings .nil pass0 (pa_cons (pv 0) pa_nil))) (pg_name (i := 2) sc__law_trees.nd rfl (.inl rfl))
      (pss_cons (ps_set (i := 3) sc__law_trees.nd rfl (.inl rfl) (pe_op op_rep (pe_lst (pa_cons (pe_tup pa_nil) pa_nil)) (pe_callTy call_int1 (by rfl) G.int (by decide +kernel) (pa_cons (pe_cmpR op_gt (pe_callB call_len_seq (by rfl) G.len PySem.boot_len (pa_cons (pv 2) pa_nil)) pe_int (nomark _)) pa_nil))))
    (pss_cons (ps_for PassesOwn.never rfl (pi_tup (pv 2)) (pg_name (i := 4) sc__law_trees.nd rfl (.inl rfl))
      (pss_cons (ps_set (i := 5) sc__law_trees.nd rfl (.inl rfl) (pe_lst pa_nil))
    (pss_cons (ps_for PassesOwn.never rfl (pi_list (pv 3)) (pg_name (i := 6) sc__law_trees.nd rfl (.inr rfl))
      (pss_one (ps_set (i := 5) sc__law_trees.nd rfl (.inl rfl) (pe_op op_cat (pv 5) (pe_lc (own := [("tree", 7)]) (g := gName 7) (tt := tYes) (by rfl) sc__law_trees.nd (pi_list (pe_call G__law_trees hr (by rfl) G.m__law_trees G.F__law_trees.kp G.b__law_trees .nil pass0 (pa_cons (pv 4) pa_nil))) (blkOk_by (own := [("tree", 7)]) (N := N__law_trees) (sc := defScope s__law_trees) (by decide +kernel)) (fun _ _ _ _ _ => (pg_name (i := 7) sc__law_trees.nd rfl (.inl rfl) (.inr rfl))) (fun _ _ _ _ _ => pts_nil) (fun _ _ _ _ _ => (pe_op (r := rCatA K) op_catA (pv 6) (pe_tup (pa_cons (pv 7) pa_nil)))))))))
    (pss_one (ps_set (i := 3) sc__law_trees.nd rfl (.inl rfl) (pv 5))))))
    (pss_one (ps_set (i := 1) sc__law_trees.nd rfl (.inl rfl) (pe_op op_cat (pv 1) (pv 3)))))))
    (pss_one (ps_ret (pv 1)))))), ?_⟩
    have ul := dpAll_length hAll
    rw [List.length_map] at ul
    rw [lawB_succ] at q
    refine ⟨_, rfl, a, _, rfl, .inr ha, rfl, _, rfl, ?_⟩
    cases ls with
    | nil => cases hl1
    | cons l r =>
    refine ite2 (fun c => ?_) (fun c => ?_)
    · have c : ((us.length : Nat) : Int) = 1 := V.int.inj (of_decide_eq_true c)
      have e : (l :: r).length = 1 := by omega
      rw [if_pos e] at q
      have er : r = [] := List.length_eq_zero_iff.mp (Nat.succ.inj e)
      subst er
      obtain ⟨u0, ur, rfl, d0, dr⟩ := dpAll_cons (ds := []) hAll
      cases dr
      refine ⟨_, rfl, a, _, _, u0, rfl, rfl, ha, atI_nat (j := 0) rfl, (by decide : 1 ≤ sizeLine), fun p0 hp0 => ?_⟩
      have l1 := Le.new (o := .lst [u0]) hp0
      exact q p0 [u0] _ l1 hp0 upd_same (.cons (l1.dp d0) .nil)
    · have e : ¬ (l :: r).length = 1 := fun z => c (decide_eq_true (congrArg V.int (show ((us.length : Nat) : Int) = 1 by omega)))
      rw [if_neg e] at q
      have r3 : r.length ≤ 3 := by rw [List.length_cons] at hln; omega
      refine ⟨Nat.zero_le _, fun p0 hp0 => ?_⟩
      have l0 := Le.new (o := .lst []) hp0
      have k0 : upd H p0 (.lst []) p0 = some (.lst []) := upd_same
      generalize upd H p0 (.lst []) = H0 at l0 k0
      refine ⟨_, rfl, a, us, l, r, rfl, l0.sqt ha, l0.dpAll hAll, r3, fun pg ws H1 l1 hpg h1 d1 => ⟨pg, rfl, ⟨ws, sql h1⟩, ?_⟩⟩
      have l01 := l0.trans l1
      obtain ⟨b1, b2⟩ := grp_bd (l :: r) (by rw [List.length_cons]; omega)
      have hlsn : (l :: r).length ≤ n + 1 := hln
      generalize (l :: r).length = len at b2 hlsn
      generalize grp (l :: r) = S at d1 b1 b2 q
      have wl := dpAll_length d1
      rw [List.length_map] at wl
      have hF : ∀ gs ∈ S, 1 < gs.length → ∀ g ∈ gs, (lawB leafT T.node n g).length ≤ 4 := fun gs hgs h2 g hg => by
        obtain ⟨x1, x2, x3⟩ := (b2 gs hgs).2 g hg
        have x3 := x3 h2
        exact lawB_bd (by omega) x1 (by omega)
      generalize hFe : lawB leafT T.node n = F at hF q
      have hB : ∀ gs ∈ S, (bF F gs).length ≤ 256 := fun gs hgs => by
        unfold bF
        split
        · rename_i h2
          have z := (rowsFr_bd gs.length gs rfl (hF gs hgs h2)).1
          have g4 := (b2 gs hgs).1
          have p4 : 4 ^ gs.length ≤ 4 ^ 4 := Nat.pow_le_pow_right (by decide) g4
          rw [List.length_map]
          exact Nat.le_trans z (Nat.le_trans p4 (by decide))
        · exact Nat.zero_le _
      have fl : ∀ m, ((S.take m).flatMap (bF F)).length ≤ 3840 := fun m => by
        have z := flatC_len (bF F) 256 (S.take m) fun gs h => hB gs (List.mem_of_mem_take h)
        rw [List.length_take] at z
        omega
      refine for_list (D := { nx := _, rt := _, bk := fun _ _ => True, ct := fun _ _ => True }) (xs := ws) (fun i σ2 H2 => ∃ (p : Addr) (ts : List V) (z2 z3 z4 z5 z6 z7 : Option V), σ2 = [some (.ref a), some (.ref p), z2, z3, z4, z5, z6, z7] ∧ Le H1 H2 ∧ H p = none ∧ H2 p = some (.lst ts) ∧ DpAll K H2 ts (((S.take i).flatMap (bF F)).map T.data)) ⟨p0, [], _, _, _, _, _, _, rfl, Le.refl _, hp0, l1.lst k0, .nil⟩ (fun i σ2 H2 _ ⟨_, _, _, _, _, _, _, _, _, l2, _⟩ => sql (l2.lst h1)) ?_ ?_
      · rintro i x σ2 H2 hx ⟨p, ts, z2, z3, z4, z5, z6, z7, rfl, l2, hp, hts, dts⟩
        have l02 := l01.trans l2
        obtain ⟨d, hdi, hdx⟩ := dpAll_getV (l2.dpAll d1) hx
        have hi : i < S.length := by
          have := (List.getElem?_eq_some_iff.mp hx).1
          omega
        have hS : S[i]? = some S[i] := List.getElem?_eq_getElem hi
        have Sm : S[i] ∈ S := List.getElem_mem hi
        rw [List.getElem?_map, hS] at hdi
        obtain rfl : rowD S[i] = d := Option.some.inj hdi
        have tk : (S.take (i + 1)).flatMap (bF F) = (S.take i).flatMap (bF F) ++ bF F S[i] := by
          rw [List.take_succ, hS, List.flatMap_append]
          show _ ++ List.flatMap _ [S[i]] = _
          rw [List.flatMap_cons, List.flatMap_nil, List.append_nil]
        have f0 := fl i
        rw [tk]
        have hFi := hF _ Sm
        have b2i := b2 _ Sm
        generalize S[i] = gs at hdx hFi b2i
        generalize (S.take i).flatMap (bF F) = A at dts f0
        obtain ⟨g4, gb⟩ := b2i
        obtain ⟨b, ug, rfl, hb, dgs⟩ := dp_tupG hdx
        have ugl := dpAll_length dgs
        rw [List.length_map] at ugl
        have tsl := dpAll_length dts
        rw [List.length_map] at tsl
        -- rows
        refine ⟨Nat.zero_le _, fun e0 he0 => ⟨(by decide : 1 ≤ sizeLine), fun e1 he1 => ?_⟩⟩
        have m1 := Le.new (o := .tup []) he0
        have de : Dp K (upd H2 e0 (.tup [])) (.ref e0) (trD []) := .tup (sqt upd_same) .nil
        generalize upd H2 e0 (.tup []) = Ha at m1 de he1
        have m2 := Le.new (o := .lst [.ref e0]) he1
        have k1 : upd Ha e1 (.lst [.ref e0]) e1 = some (.lst [.ref e0]) := upd_same
        have de := m2.dp de
        generalize upd Ha e1 (.lst [.ref e0]) = Hb at m2 k1 de
        have m02 := m1.trans m2
        refine ⟨_, rfl, b, _, rfl, .inr (m02.sqt hb), _, _, rfl, rfl, .inr ⟨_, rfl, ?_⟩⟩
        refine ⟨e1, _, [.ref e0], rfl, rfl, k1, by split <;> decide, by split <;> decide, by split; exact (by decide : 1 ≤ sizeLine); exact (by decide : 0 ≤ sizeLine), fun pr hpr => ?_⟩
        obtain ⟨rs, R0, hrs, hR0, dR0⟩ : ∃ (rs : List V) (R0 : List (List T)), (List.replicate (if decide (1 < ((ug.length : Nat) : Int)) = true then (1 : Int) else 0).toNat [V.ref e0]).flatten = rs ∧ R0 = (if 1 < gs.length then [[]] else []) ∧ DpAll K Hb rs (R0.map trD) := by
          by_cases h2 : 1 < gs.length
          · refine ⟨[.ref e0], [[]], ?_, (if_pos h2).symm, .cons de .nil⟩
            rw [if_pos (decide_eq_true (by omega))]
            rfl
          · refine ⟨[], [], ?_, (if_neg h2).symm, .nil⟩
            rw [if_neg (fun z => h2 (by have := of_decide_eq_true z; omega))]
            rfl
        rw [hrs]
        have m3 := Le.new (o := .lst rs) hpr
        have kr : upd Hb pr (.lst rs) pr = some (.lst rs) := upd_same
        have dR0 := m3.dpAll dR0
        have m03 := m02.trans m3
        generalize upd Hb pr (.lst rs) = Hc at m03 kr dR0
        have hR : ∀ j, (rowsFr F R0 (gs.take j)).length ≤ 256 ∧ ∀ row ∈ rowsFr F R0 (gs.take j), row.length ≤ 4 ∧ 1 < gs.length := fun j => by
          by_cases h2 : 1 < gs.length
          · rw [if_pos h2] at hR0
            rw [hR0]
            obtain ⟨z1, z2⟩ := rowsFr_bd (F := F) (gs.take j).length (gs.take j) rfl fun g hg => hFi h2 g (List.mem_of_mem_take hg)
            have tl : (gs.take j).length ≤ 4 := by rw [List.length_take]; omega
            have p4 : 4 ^ (gs.take j).length ≤ 4 ^ 4 := Nat.pow_le_pow_right (by decide) tl
            exact ⟨Nat.le_trans z1 (Nat.le_trans p4 (by decide)), fun row hr => ⟨by rw [z2 row hr]; exact tl, h2⟩⟩
          · rw [if_neg h2] at hR0
            rw [hR0, rowsFr_nil]
            exact ⟨Nat.zero_le _, fun row hr => (by cases hr)⟩
        refine ⟨_, rfl, b, rfl, ⟨ug, m03.sqt hb⟩, ?_⟩
        refine for_tup (D := { nx := _, rt := _, bk := fun _ _ => True, ct := fun _ _ => True }) (xs := ug) (fun j σ3 H3 => ∃ (pr : Addr) (rs : List V) (z4 z5 z6 z7 : Option V), σ3 = [some (.ref a), some (.ref p), some (.ref b), some (.ref pr), z4, z5, z6, z7] ∧ Le H2 H3 ∧ H3 pr = some (.lst rs) ∧ DpAll K H3 rs ((rowsFr F R0 (gs.take j)).map trD)) ⟨pr, rs, _, _, _, _, rfl, m03, kr, dR0⟩ (fun j σ3 H3 _ ⟨_, _, _, _, _, _, _, l3, _⟩ => l3.sqt hb) ?_ ?_
        · rintro j x3 σ3 H3 hx3 ⟨pr, rs, y4, y5, y6, y7, rfl, l3, hrs, drs⟩
          obtain ⟨d3, hd3, hdx3⟩ := dpAll_getV (l3.dpAll dgs) hx3
          have hj : j < gs.length := by
            have := (List.getElem?_eq_some_iff.mp hx3).1
            omega
          have hgj : gs[j]? = some gs[j] := List.getElem?_eq_getElem hj
          have gm : gs[j] ∈ gs := List.getElem_mem hj
          rw [List.getElem?_map, hgj] at hd3
          obtain rfl : grpD gs[j] = d3 := Option.some.inj hd3
          have tk3 : gs.take (j + 1) = gs.take j ++ [gs[j]] := by rw [List.take_succ, hgj]; rfl
          have hR1 := (hR (j + 1)).1
          rw [tk3, rowsFr_snoc] at hR1 ⊢
          obtain ⟨hR2, hR3⟩ := hR j
          generalize gs[j] = g at hdx3 gm hR1
          generalize rowsFr F R0 (gs.take j) = R at drs hR1 hR2 hR3
          obtain ⟨c, cs, rfl, hc, dcs⟩ := dp_tupG hdx3
          have rsl := dpAll_length drs
          rw [List.length_map] at rsl
          refine ⟨Nat.zero_le _, fun D0 hD0 => ?_⟩
          have n1 := Le.new (o := .lst []) hD0
          have k5 : upd H3 D0 (.lst []) D0 = some (.lst []) := upd_same
          generalize upd H3 D0 (.lst []) = H3b at n1 k5
          refine ⟨_, rfl, pr, rfl, ⟨rs, sql (n1.lst hrs)⟩, ?_⟩
          refine for_list (D := { nx := _, rt := _, bk := fun _ _ => True, ct := fun _ _ => True }) (xs := rs) (fun m σ4 H4 => ∃ (pl : Addr) (ac : List V) (z6 z7 : Option V), σ4 = [some (.ref a), some (.ref p), some (.ref b), some (.ref pr), some (.ref c), some (.ref pl), z6, z7] ∧ Le H3 H4 ∧ H4 pl = some (.lst ac) ∧ DpAll K H4 ac ((stepR F (R.take m) g).map trD)) ⟨D0, [], _, _, rfl, n1, k5, .nil⟩ (fun m σ4 H4 _ ⟨_, _, _, _, _, l4, _⟩ => sql (l4.lst hrs)) ?_ ?_
          · rintro m x4 σ4 H4 hx4 ⟨pl, ac, y6, y7, rfl, l4, hac, dac⟩
            obtain ⟨d4, hd4, hdx4⟩ := dpAll_getV (l4.dpAll drs) hx4
            have hm : m < R.length := by
              have := (List.getElem?_eq_some_iff.mp hx4).1
              omega
            have hRm : R[m]? = some R[m] := List.getElem?_eq_getElem hm
            have Rm : R[m] ∈ R := List.getElem_mem hm
            rw [List.getElem?_map, hRm] at hd4
            obtain rfl : trD R[m] = d4 := Option.some.inj hd4
            have tk4 : stepR F (R.take (m + 1)) g = stepR F (R.take m) g ++ (F g).map fun t => R[m] ++ [t] := by
              unfold stepR
              rw [List.take_succ, hRm, List.flatMap_append]
              show _ ++ List.flatMap _ [R[m]] = _
              rw [List.flatMap_cons, List.flatMap_nil, List.append_nil]
            rw [tk4]
            obtain ⟨row4, h2⟩ := hR3 _ Rm
            have Fg := hFi h2 g gm
            have gb1 := gb g gm
            have gln := gb1.2.2 h2
            have stl : (stepR F (R.take m) g).length ≤ 1024 := by
              have z := flatC_len (fun row => (F g).map fun t => row ++ [t]) 4 (R.take m) fun row _ => by rw [List.length_map]; exact Fg
              rw [List.length_take] at z
              unfold stepR
              omega
            generalize R[m] = row at hdx4 row4
            generalize stepR F (R.take m) g = W at dac stl
            obtain ⟨rb, us4, rfl, hrb, drow⟩ := dp_tupG hdx4
            have us4l := dpAll_length drow
            rw [List.length_map] at us4l
            have acl := dpAll_length dac
            rw [List.length_map] at acl
            refine ⟨_, rfl, _, rfl, c, cs, g, rfl, l4.sqt hc, l4.dpAll dcs, gb1.1, by omega, by omega, fun pt ts2 H5 l5 hpt kt dt => ⟨pt, rfl, ⟨ts2, sql kt⟩, fun D hD => ?_⟩⟩
            rw [hFe] at dt
            have ts2l := dpAll_length dt
            rw [List.length_map] at ts2l
            refine lc_list (xs := ts2) (fun e Hm => Le H5 Hm ∧ ∃ acc, Hm D = some (.lst acc) ∧ DpAll K Hm acc ((((F g).take e).map fun t => row ++ [t]).map trD)) ⟨Le.new hD, [], upd_same, .nil⟩ (fun e Hm _ ⟨lm, _⟩ => sql (lm.lst kt)) ?_ ?_
            · rintro e x5 Hm hx5 ⟨lm, acc, hacc, dacc⟩
              obtain ⟨d5, hd5, hdx5⟩ := dpAll_getV (lm.dpAll dt) hx5
              have he : e < (F g).length := by
                have := (List.getElem?_eq_some_iff.mp hx5).1
                omega
              have hFe5 : (F g)[e]? = some (F g)[e] := List.getElem?_eq_getElem he
              rw [List.getElem?_map, hFe5] at hd5
              obtain rfl : (F g)[e].data = d5 := Option.some.inj hd5
              have tk5 : (F g).take (e + 1) = (F g).take e ++ [(F g)[e]] := by rw [List.take_succ, hFe5]; rfl
              rw [tk5, List.map_append, List.map_append]
              have accl := dpAll_length dacc
              rw [List.length_map, List.length_map, List.length_take] at accl
              generalize (F g)[e] = t at hdx5
              refine ⟨rfl, yes_go ⟨_, rfl, _, rfl, (by decide : 1 ≤ sizeLine), fun q1 hq1 => ?_⟩⟩
              have o1 := Le.new (o := .tup [x5]) hq1
              have e1 : SqT K (upd Hm q1 (.tup [x5])) q1 [x5] := sqt upd_same
              generalize upd Hm q1 (.tup [x5]) = Hn at o1 e1
              refine catS ((l5.trans (lm.trans o1)).sqt hrb) e1 (sz (by show us4.length + 1 ≤ _; omega)) fun q3 Ho o2 e3 => ?_
              have o12 := o1.trans o2
              have dn : Dp K Ho (.ref q3) (trD (row ++ [t])) := by
                unfold trD
                rw [List.map_append]
                exact .tup e3 (dpAll_append ((l5.trans (lm.trans o12)).dpAll drow) (.cons (o12.dp hdx5) .nil))
              have hac5 := o12.lst hacc
              refine ⟨acc, hac5, szlt (by omega), (lm.trans o12).mut hD, _, upd_same, ?_⟩
              exact dpAll_append (dpAll_upd hac5 (tupO_trs _) (o12.dpAll dacc)) (.cons (dp_upd hac5 (tupO_trD _) dn) .nil)
            · rintro Hm ⟨lm, acc, hacc, dacc⟩
              rw [ts2l, List.take_length] at dacc
              have accl := dpAll_length dacc
              rw [List.length_map, List.length_map] at accl
              have l5m := l5.trans lm
              refine ⟨pl, D, ac, acc, rfl, rfl, l5m.lst hac, hacc, sz (by omega), fun p6 hp6 => ?_⟩
              have l8 := Le.new (o := .lst (ac ++ acc)) hp6
              refine ⟨p6, _, _, _, rfl, l4.trans (l5m.trans l8), upd_same, ?_⟩
              rw [List.map_append]
              exact dpAll_append ((l5m.trans l8).dpAll dac) (l8.dpAll dacc)
          · rintro σ4 H4 ⟨pl, ac, y6, y7, rfl, l4, hac, dac⟩
            rw [rsl, List.take_length] at dac
            exact ⟨_, rfl, pl, ac, _, _, _, _, rfl, l3.trans l4, hac, dac⟩
        · rintro σ3 H3 ⟨pr, rs, y4, y5, y6, y7, rfl, l3, hrs, drs⟩
          rw [ugl, List.take_length] at drs
          have hRl := (hR gs.length).1
          rw [List.take_length] at hRl
          have rsl := dpAll_length drs
          rw [List.length_map] at rsl
          have eB : (rowsFr F R0 gs).map trD = (bF F gs).map T.data := by
            rw [map_trD]
            unfold bF
            by_cases h2 : 1 < gs.length
            · rw [if_pos h2] at hR0 ⊢
              rw [hR0]
              rfl
            · rw [if_neg h2] at hR0 ⊢
              rw [hR0, rowsFr_nil]
              rfl
          rw [eB] at drs
          refine ⟨_, rfl, _, rfl, p, pr, ts, rs, rfl, rfl, l3.lst hts, hrs, sz (by omega), fun p6 hp6 => ?_⟩
          have l8 := Le.new (o := .lst (ts ++ rs)) hp6
          refine ⟨p6, _, _, _, _, _, _, _, rfl, l2.trans (l3.trans l8), l02.dom _ (l3.dom _ hp6), upd_same, ?_⟩
          rw [List.map_append]
          exact dpAll_append ((l3.trans l8).dpAll dts) (l8.dpAll drs)
      · rintro σ2 H2 ⟨p, ts, z2, z3, z4, z5, z6, z7, rfl, l2, hp, hts, dts⟩
        rw [wl, List.take_length] at dts
        exact ⟨_, rfl, q p ts H2 (l01.trans l2) hp hts dts⟩
end
end Wr

set_option Elab.async false
set_option linter.all false
set_option maxRecDepth 100000
set_option maxHeartbeats 2000000
namespace Wr
open PySem PySem.Spec PyProof.Rows L2
/-! ### the law's own strands -/
section
variable {P : Program} {w : World} {K : PySem.W.Frag} {mg : Str → Option Value} {base : Heap}
theorem ok_lstr (G : Gx K mg) (k : Nat) : ∀ n : Nat, FnOk P w K mg base CX0 (n + k + 1) G.f__law_strands G.fd__law_strands ["tree"] (spStrands K n)
  | 0 => by
    have no : ∀ vs H Q E, ¬ spStrands K 0 vs H Q E := fun vs H Q E h => by
      obtain ⟨v, t, H0, _, _, _, ho, h1, _⟩ := h
      have := t.lpos ho
      omega
    exact ⟨fun vs H Q E h => absurd h (no vs H Q E), fun A outer s H args us vs Q E _ _ _ _ h => absurd h (no vs H Q E)⟩
  | n + 1 => by
    have G__law_strands := ok_lstr G k n
    have lev : n + 1 + k + 1 = (n + k + 1) + 1 := by omega
    rw [lev]
    refine G.F__law_strands.ok sc__law_strands (fun vs H Q E h => ?_) (fun cdv A outer s H vs Q E hr h => ?_)
    · obtain ⟨v, t, H0, rfl, _⟩ := h
      rfl
    obtain ⟨v, t, H0, rfl, l0, hd, ho, hn, hb, q⟩ := h
    refine ⟨_, (pss_cons (ps_if (pt_val (pe_callB call_isi (by rfl) G.isinstance (by decide +kernel) (pa_cons (pe_ix ix_tup (pv 0) pe_int (fun _ _ => rfl)) (pa_cons (pe_bltn (v := .ty "str") (u := .type "str") (by rfl) G.str (by decide +kernel) rfl) pa_nil)))) (pss_one (ps_ret (pe_lst (pa_cons (pv 0) pa_nil)))) pss_nil)
    (pss_cons (ps_set (i := 1) sc__law_strands.nd rfl (.inl rfl) (pe_lst pa_nil))
    (pss_cons (ps_for PassesOwn.never rfl (pi_tup (pv 0)) (pg_name (i := 2) sc__law_strands.nd rfl (.inl rfl))
      (pss_one (ps_set (i := 1) sc__law_strands.nd rfl (.inl rfl) (pe_op op_cat (pv 1) (pe_call G__law_strands hr (by rfl) G.m__law_strands G.F__law_strands.kp G.b__law_strands .nil pass0 (pa_cons (pv 2) pa_nil))))))
    (pss_one (ps_ret (pv 1)))))), ?_⟩
    obtain ⟨a, us, x0, rfl, hS, h0, d0, hd0, hs0⟩ := first_isi hd ho
    refine ⟨_, rfl, a, _, _, _, rfl, rfl, l0.sqt hS, h0, x0, _, _, _, _, rfl, .ty "str", dp_ty (l0.dp hd0), kit_ty (kit_str d0), _, rfl, ?_⟩
    rw [hs0]
    cases t with
    | leaf nm p w =>
      refine iteT ⟨_, rfl, (by decide : 1 ≤ sizeLine), fun p0 hp0 => q p0 [_] _ (Le.new hp0) hp0 upd_same ?_⟩
      exact .cons hd .nil
    | node ts =>
      refine iteF ⟨Nat.zero_le _, fun p0 hp0 => ?_⟩
      obtain ⟨a2, us2, e2, hS2, hl2, hc2⟩ := node_items hd
      cases e2
      refine ⟨_, rfl, a, rfl, ⟨_, (Le.new hp0).sqt (l0.sqt hS2)⟩, ?_⟩
      refine for_tup (xs := us2) (fun i σ' H' => ∃ (p : Addr) (acc : List V) (y2 : Option V), σ' = [some (.ref a), some (.ref p), y2] ∧ Le H H' ∧ H p = none ∧ H' p = some (.lst acc) ∧ DpAll K H0 acc ((T.leavesL (ts.take i)).map leafD)) ⟨p0, [], none, rfl, Le.new hp0, hp0, upd_same, .nil⟩ (fun i σ' H' _ ⟨_, _, _, _, l2, _⟩ => l2.sqt (l0.sqt hS2)) ?_ ?_
      · rintro i x σ' H' hx ⟨p, acc, y2, rfl, l2, hp, hacc, dacc⟩
        obtain ⟨c, hc, cm, dc⟩ := hc2 i x hx
        have clt := T.child_lt ho cm
        refine ⟨_, rfl, _, rfl, x, c, H0, rfl, l0.trans l2, dc, T.child_ok ho cm, by omega, by omega, fun p1 us1 H3 l3 hp1 h3 d3 => ?_⟩
        have ct : T.leavesL (ts.take (i + 1)) = T.leavesL (ts.take i) ++ c.leaves := T.leaves_take ts i _ hc
        have lim := leavesL_len (ts := ts) (i + 1)
        have a1 := dpAll_length dacc
        have a2 := dpAll_length d3
        rw [List.length_map] at a1 a2
        rw [ct, List.length_append] at lim
        have hn2 : (T.leavesL ts).length ≤ n + 1 := hn
        refine ⟨p, p1, acc, us1, rfl, rfl, l3.lst hacc, h3, sz (by omega), fun p4 hp4 => ?_⟩
        have l4 := (l2.trans l3).trans (Le.new (o := .lst (acc ++ us1)) hp4)
        refine ⟨p4, acc ++ us1, _, rfl, l4, (l2.trans l3).dom _ hp4, upd_same, ?_⟩
        rw [ct, List.map_append]
        exact dpAll_append dacc d3
      · rintro σ' H' ⟨p, acc, y2, rfl, l2, hp, hacc, dacc⟩
        rw [hl2, List.take_length] at dacc
        exact ⟨_, rfl, q p acc H' l2 hp hacc dacc⟩
end
end Wr

set_option Elab.async false
set_option linter.all false
set_option maxRecDepth 100000
set_option maxHeartbeats 2000000
namespace Wr
open PySem PySem.Spec PyProof.Rows L2
/-! ### the law's own divisors -/
section
variable {P : Program} {w : World} {K : PySem.W.Frag} {mg : Str → Option Value} {base : Heap}
theorem ok_ldiv (G : Gx K mg) (k : Nat) : ∀ n : Nat, FnOk P w K mg base CX0 (n + k + 1) G.f__law_divisors G.fd__law_divisors ["tree", "names"] (spDiv K n)
  | 0 => by
    have no : ∀ vs H Q E, ¬ spDiv K 0 vs H Q E := fun vs H Q E h => by
      obtain ⟨v, t, H0, b, N, _, _, _, _, ho, h1, _⟩ := h
      have := t.lpos ho
      omega
    exact ⟨fun vs H Q E h => absurd h (no vs H Q E), fun A outer s H args us vs Q E _ _ _ _ h => absurd h (no vs H Q E)⟩
  | n + 1 => by
    have G__law_divisors := ok_ldiv G k n
    have lev : n + 1 + k + 1 = (n + k + 1) + 1 := by omega
    rw [lev]
    refine G.F__law_divisors.ok sc__law_divisors (fun vs H Q E h => ?_) (fun cdv A outer s H vs Q E hr h => ?_)
    · obtain ⟨v, t, H0, b, N, rfl, _⟩ := h
      rfl
    obtain ⟨v, t, H0, b, N, rfl, l0, hd, hN, ho, hn, hb, nd, q⟩ := h
    refine ⟨_, (pss_cons (ps_if (pt_val (pe_callB call_isi (by rfl) G.isinstance (by decide +kernel) (pa_cons (pe_ix ix_tup (pv 0) pe_int (fun _ _ => rfl)) (pa_cons (pe_bltn (v := .ty "str") (u := .type "str") (by rfl) G.str (by decide +kernel) rfl) pa_nil)))) (pss_one (ps_ret (D2.pe_frz (pe_ifExp (pt_cmpR op_in_seq (pe_ix ix_tup (pv 0) pe_int (fun _ _ => rfl)) (pv 1) (by rfl)) (pe_disp (pps_cons (pe_ix ix_tup (pv 0) pe_int (fun _ _ => rfl)) pe_int pps_nil) rfl rfl (by simp) (by decide)) pe_dnewK)))) pss_nil)
    (pss_cons (ps_setLc (i := 2) (own := [("child", 6)]) (g := gName 6) (tt := tYes) (by rfl) sc__law_divisors.nd rfl rfl (sw_true rfl rfl rfl (by decide +kernel)) (pi_tup (pv 0)) (blkOk_by (own := [("child", 6)]) (N := N__law_divisors) (sc := defScope s__law_divisors) (by decide +kernel)) (fun _ _ _ _ _ => (pg_name (i := 6) sc__law_divisors.nd rfl (.inl rfl) (.inr rfl))) (fun _ _ _ _ _ => pts_nil) (fun _ _ _ _ _ => (pe_call G__law_divisors hr (by rfl) G.m__law_divisors G.F__law_divisors.kp G.b__law_divisors .nil pass0 (pa_cons (pv 6) (pa_cons (pv 1) pa_nil)))))
    (pss_cons (ps_setLc (i := 2) (own := [("part", 3)]) (g := gName 3) (by rfl) sc__law_divisors.nd rfl rfl (sw_true rfl rfl rfl (by decide +kernel)) (pi_list (pv 2)) (blkOk_by (own := [("part", 3)]) (N := N__law_divisors) (sc := defScope s__law_divisors) (by decide +kernel)) (fun _ _ _ _ _ => (pg_name (i := 3) sc__law_divisors.nd rfl (.inl rfl))) (fun _ _ _ _ _ => (pts_one (pt_cmpR (D2.op_neE (hu0 hr)) (pv 3) pe_dnewK (nomark _)))) (fun _ _ _ _ _ => (pv 3)))
    (pss_cons (ps_set (i := 4) sc__law_divisors.nd rfl (.inl rfl) pe_dnewK)
    (pss_cons (ps_for PassesOwn.never rfl (pi_list (pv 2)) (pg_name (i := 3) sc__law_divisors.nd rfl (.inl rfl))
      (pss_one (ps_for PassesOwn.never rfl (pi_keys (pv 3)) (pg_name (i := 5) sc__law_divisors.nd rfl (.inl rfl))
      (pss_one (ps_dput (hu1 hr) (pv 4) (pv 5) (pe_op op_mul (pe_callB call_len_seq (by rfl) G.len PySem.boot_len (pa_cons (pv 2) pa_nil)) (pe_dget (hu1 hr) (pv 3) (pv 5) (fun _ _ => rfl))) rfl)))))
    (pss_one (ps_ret (D2.pe_frz (pv 4))))))))), ?_⟩
    obtain ⟨a, us0, x0, rfl, hS0, h0, d0, hd0, hs0⟩ := first_isi hd ho
    refine ⟨_, rfl, a, _, _, _, rfl, rfl, l0.sqt hS0, h0, x0, _, _, _, _, rfl, .ty "str", dp_ty (l0.dp hd0), kit_ty (kit_str d0), _, rfl, ?_⟩
    rw [hs0]
    cases t with
    | leaf nm pw wr =>
      refine iteT ?_
      obtain ⟨a2, e2, hS⟩ := dp_leaf (l := (nm, pw, wr)) hd
      cases e2
      have hS := l0.sqt hS
      refine ⟨_, rfl, a, _, _, _, rfl, rfl, hS, atI_nat (j := 0) rfl, _, rfl, b, _, rfl, hN, rfl, flat_strs N, _, rfl, ?_⟩
      have ein : (if false = true then !inV (.str nm) (N.map V.str) else inV (.str nm) (N.map V.str)) = inL N nm := by
        rw [if_neg Bool.false_ne_true, in_strs]
      rw [ein]
      cases hin : inL N nm with
      | true =>
        refine iteT fun p0 hp0 => ?_
        refine ⟨_, rfl, a, _, _, _, rfl, rfl, (Le.new hp0).sqt hS, atI_nat (j := 0) rfl, upd_same, [(Sum.inr nm, .int 1)], rfl, (by decide : 1 ≤ 15), p0, _, rfl, upd_same, trivial, fun od => ?_⟩
        refine q p0 od _ (((Le.new hp0).mut hp0).mut hp0) hp0 ?_
        rw [upd_same]
        unfold T.div
        rw [if_pos hin]
        rfl
      | false =>
        refine iteF fun p0 hp0 => ⟨p0, _, rfl, upd_same, trivial, fun od => ?_⟩
        refine q p0 od _ ((Le.new hp0).mut hp0) hp0 ?_
        rw [upd_same]
        unfold T.div
        rw [if_neg (by rw [hin]; decide)]
        rfl
    | node ts =>
      refine iteF ?_
      obtain ⟨a2, us, e2, hS2, hl, hc2⟩ := node_items hd
      cases e2
      have hS := l0.sqt hS2
      generalize hds : T.divL (inL N) ts = ds
      have dsl : ds.length = ts.length := by
        rw [← hds, T.divL_map, List.length_map]
      have tl : ts.length ≤ 60 := by
        have h1 := T.lposL ts (by unfold T.Ok at ho; exact ho.2)
        have h2 : (T.leavesL ts).length ≤ n + 1 := hn
        omega
      refine ⟨_, rfl, a, rfl, ⟨us, hS⟩, fun D1 hD1 => ?_⟩
      refine lc_tup (xs := us) (fun i H2 => Le H H2 ∧ ∃ acc, H2 D1 = some (.lst acc) ∧ Parts H2 acc (ds.take i)) ⟨Le.new hD1, [], upd_same, .nil⟩ (fun i H2 _ ⟨l2, _⟩ => l2.sqt hS) ?_ ?_
      · rintro i x H2 hx ⟨l2, acc, hacc, pacc⟩
        obtain ⟨c, hc, cm, hdx⟩ := hc2 i x hx
        have clt := T.child_lt ho cm
        have edi : ds[i]? = some (c.div (inL N)) := by
          rw [← hds, T.divL_map, List.getElem?_map, hc]
          rfl
        have al := pacc.len
        rw [List.length_take] at al
        refine ⟨rfl, yes_go ⟨_, rfl, _, rfl, x, c, H0, b, N, rfl, l0.trans l2, hdx, l2.sq2 hN, T.child_ok ho cm, by omega, by omega, T.child_nd nd cm, fun p1 od H3 l3 hp1 h3 => ?_⟩⟩
        refine ⟨acc, l3.lst hacc, szlt (by omega), (l2.trans l3).mut hD1, _, upd_same, ?_⟩
        rw [List.take_succ, edi]
        exact Parts.upd (l3.lst hacc) lst_not_frz (Parts.snoc ⟨p1, od, rfl, h3⟩ (pacc.le l3))
      · rintro H2 ⟨l2, acc, hacc, pacc⟩
        rw [hl, ← dsl, List.take_length] at pacc
        have al := pacc.len
        refine ⟨_, rfl, D1, rfl, ⟨acc, sql hacc⟩, fun D2 hD2 => ?_⟩
        refine lc_list (xs := acc) (fun i H3 => Le H2 H3 ∧ ∃ ac2, H3 D2 = some (.lst ac2) ∧ Parts H3 ac2 ((ds.take i).filter fun p => !p.isEmpty)) ⟨Le.new hD2, [], upd_same, .nil⟩ (fun i H3 _ ⟨l3, _⟩ => sql (l3.lst hacc)) ?_ ?_
        · rintro i x H3 hx ⟨l3, ac2, hac2, pac2⟩
          obtain ⟨d, hdi, hpa⟩ := pacc.get hx
          obtain ⟨p, od, rfl, hp⟩ := hpa.le l3
          have f2 := filt_take ds i d hdi
          have a2 := pac2.len
          have a3 : ((ds.take i).filter fun p => !p.isEmpty).length ≤ ds.length := Nat.le_trans (List.length_filter_le _ _) (by rw [List.length_take]; omega)
          refine ⟨rfl, _, rfl, fun e0 he0 => ?_⟩
          have l4 := Le.new (o := .dK []) he0
          refine ⟨p, e0, _, rfl, rfl, .inr ⟨od, l4.frz hp⟩, .inl upd_same, _, rfl, ?_⟩
          rw [kvD_empty]
          cases he : (!d.isEmpty) with
          | true =>
            rw [he, if_pos rfl] at f2
            refine iteT ⟨_, rfl, ac2, l4.lst hac2, szlt (by omega), (l3.trans l4).mut hD2, _, upd_same, ?_⟩
            rw [f2]
            exact Parts.upd (l4.lst hac2) lst_not_frz (Parts.snoc ⟨p, od, rfl, l4.frz hp⟩ (pac2.le l4))
          | false =>
            rw [he, if_neg Bool.false_ne_true, List.append_nil] at f2
            refine iteF ⟨l3.trans l4, ac2, l4.lst hac2, ?_⟩
            rw [f2]
            exact pac2.le l4
        · rintro H3 ⟨l3, ac2, hac2, pac2⟩
          rw [al, List.take_length] at pac2
          refine fun R hR => ?_
          generalize hsh : (ds.filter fun p => !p.isEmpty) = sh at pac2
          have al2 := pac2.len
          generalize hf : (fun p : Dv => (p.map fun x => (x.1, x.2 * ((sh.length : Nat) : Int)) : Dv)) = f
          generalize hF : kvD (sh.flatMap f) = F
          have eF : kvD ((T.node ts).div (inL N)) = F := by
            rw [← hF, ← hf, ← hsh, ← hds, T.div]
            rfl
          have kn : (F.map (·.1)).Nodup := by
            rw [← eF]
            exact div_nd nd
          have fl : ∀ d : Dv, (f d).length = d.length := fun d => by
            rw [← hf]
            exact List.length_map _
          have Fl : F.length ≤ 100 := by
            have z := congrArg List.length (T.div_keys (inL N) (T.node ts))
            rw [List.length_map] at z
            have z2 : ((T.node ts).names.filter (inL N)).length ≤ (T.node ts).names.length := List.length_filter_le _ _
            have z3 : (T.node ts).names.length = (T.node ts).leaves.length := List.length_map _
            rw [← eF]
            unfold kvD
            rw [List.length_map]
            omega
          have shl : sh.length ≤ 60 := by
            rw [← hsh]
            exact Nat.le_trans (List.length_filter_le _ _) (by omega)
          refine ⟨_, rfl, D2, rfl, ⟨ac2, sql ((Le.new hR).lst hac2)⟩, ?_⟩
          refine for_list (xs := ac2) (fun i σ4 H4 => ∃ y3 y5 : Option V, σ4 = [some (.ref a), some (.ref b), some (.ref D2), y3, some (.ref R), y5, none] ∧ Le H3 H4 ∧ H4 R = some (.dK (F.take ((sh.take i).flatMap f).length))) ⟨none, none, rfl, Le.new hR, upd_same⟩ (fun i σ4 H4 _ ⟨_, _, _, l4, _⟩ => sql (l4.lst hac2)) ?_ ?_
          · rintro i x σ4 H4 hx ⟨y3, y5, rfl, l4, h4⟩
            obtain ⟨d, hdi, p, od, rfl, hp3⟩ := pac2.get hx
            have dm : d ∈ T.divL (inL N) ts := by
              have z : d ∈ sh := List.mem_of_getElem? hdi
              rw [← hsh] at z
              rw [hds]
              exact (List.mem_filter.mp z).1
            have dnd : ((kvD d).map (·.1)).Nodup := by
              rw [T.divL_map] at dm
              obtain ⟨c, hc, rfl⟩ := List.mem_map.mp dm
              exact div_nd (T.child_nd nd hc)
            have kl : (kvD d).length = d.length := List.length_map _
            refine ⟨_, rfl, p, od, rfl, .inl ⟨_, l4.frz hp3, ?_⟩⟩
            refine for_keysF (fun j σ5 H5 => ∃ y5 : Option V, σ5 = [some (.ref a), some (.ref b), some (.ref D2), some (.ref p), some (.ref R), y5, none] ∧ Le H3 H5 ∧ H5 R = some (.dK (F.take (((sh.take i).flatMap f).length + j)))) ⟨y5, rfl, l4, h4⟩ (fun j σ5 H5 _ ⟨_, _, l5, _⟩ => l5.frz hp3) ?_ ?_
            · rintro j k2 v2 σ5 H5 hk2 ⟨y5, rfl, l5, h5⟩
              have hp5 := l5.frz hp3
              have jlt : j < d.length := by
                have := (List.getElem?_eq_some_iff.mp hk2).1
                omega
              have hdj : d[j]? = some d[j] := List.getElem?_eq_getElem jlt
              generalize d[j] = xj at hdj
              have hkj : (kvD d)[j]? = some (Sum.inr xj.1, .int xj.2) := by
                unfold kvD
                rw [List.getElem?_map, hdj]
                rfl
              rw [hkj] at hk2
              cases hk2
              have hFj : F[((sh.take i).flatMap f).length + j]? = some (Sum.inr xj.1, .int (((ac2.length : Nat) : Int) * xj.2)) := by
                rw [← hF, Int.mul_comm]
                unfold kvD
                rw [List.getElem?_map, flat_at f sh i j d hdi (by rw [fl]; exact jlt), ← hf, List.getElem?_map, hdj, al2]
                rfl
              refine ⟨_, rfl, D2, ac2, rfl, .inl (sql (l5.lst hac2)), _, rfl, _, rfl, p, .int xj.2, rfl, .inl ⟨_, Sum.inr xj.1, .inr ⟨od, hp5⟩, rfl, (val_at dnd hkj).symm⟩, _, _, rfl, rfl, .inl ⟨by omega, by omega⟩, _, rfl, _, rfl, R, _, rfl, DPut.k (k := Sum.inr xj.1) h5 (szlt ?_), _, rfl, l5.mut hR, ?_⟩
              · rw [List.length_take]
                omega
              · rw [upd_same]
                exact congrArg (fun z => some (HO.dK z)) (take_put kn hFj)
            · rintro σ5 H5 ⟨y5, rfl, l5, h5⟩
              refine ⟨_, _, rfl, l5, ?_⟩
              rw [flat_cnt f sh i d hdi, fl, ← kl]
              exact h5
          · rintro σ4 H4 ⟨y3, y5, rfl, l4, h4⟩
            rw [al2, List.take_length, show (sh.flatMap f).length = F.length by rw [← hF]; unfold kvD; rw [List.length_map], List.take_length] at h4
            have hRn : H R = none := l2.dom _ (l3.dom _ hR)
            refine ⟨_, rfl, R, _, rfl, h4, trivial, fun od => q R od _ ((l2.trans (l3.trans l4)).mut hRn) hRn ?_⟩
            rw [upd_same, eF]
end
end Wr

set_option Elab.async false
set_option linter.all false
set_option maxRecDepth 100000
set_option maxHeartbeats 2000000
namespace Wr
open PySem PySem.Spec PyProof.Rows L2
/-! ### tuples of texts as data: pure -/
theorem shp_sub {X : List Str} (h : ∀ x ∈ X, PyData.strOk x = true) : SeqAt.shaped (subD X) = true := (shp_tup (m := 0) (fun d hd => by obtain ⟨x, hx, rfl⟩ := List.mem_map.mp hd; exact shp_str (h x hx))).shaped (by decide)
theorem exD_sub (X : List Str) : exD (subD X) = true := by
  unfold subD exD
  rw [exDL_all]
  intro d hd
  obtain ⟨x, _, rfl⟩ := List.mem_map.mp hd
  rfl
theorem sub_inj {X Y : List Str} (h : subD X = subD Y) : X = Y := str_inj.mp (PyData.tuple.inj h)
theorem take_filter {α : Type} (N : List α) (f : α → Bool) {j : Nat} {n : α} (hn : N[j]? = some n) : (N.take (j + 1)).filter f = (N.take j).filter f ++ (if f n = true then [n] else []) := by
  rw [List.take_succ, hn, List.filter_append]
  congr 1
  show List.filter _ [n] = _
  cases e : f n with
  | true => rw [List.filter_cons_of_pos e]; rfl
  | false => rw [List.filter_cons_of_neg (by rw [e]; decide)]; rfl
theorem shp_lstS {X : List Str} (h : ∀ x ∈ X, PyData.strOk x = true) : SeqAt.shaped (.list (X.map .str)) = true := (shp_lst (m := 0) (fun d hd => by obtain ⟨x, hx, rfl⟩ := List.mem_map.mp hd; exact shp_str (h x hx))).shaped (by decide)
end Wr

set_option Elab.async false
set_option linter.all false
set_option maxRecDepth 100000
set_option maxHeartbeats 2000000
namespace Wr
open PySem PySem.Spec PyProof.Rows L2
/-! ### what every law draws -/
theorem six_ok : ∀ n ∈ sixN, PyData.strOk n = true := by decide +kernel
theorem rig_at {K : PySem.W.Frag} {H : Hp} {v : V} {t : T} {n : Nat} (hn : n ≤ 6) (h : RigOk n t) (hd : Dp K H v t.data) : RigAt K H v t :=
  ⟨hd, h.ok, Nat.le_trans h.len hn, h.nd, fun l hl => by
    obtain ⟨_, h1, h2, h3, h4⟩ := h.leaf l hl
    exact ⟨by omega, by omega, by omega, by omega⟩, fun n hn => by
    obtain ⟨l, hl, rfl⟩ := List.mem_map.mp hn
    exact six_ok _ (h.leaf l hl).1⟩
theorem rig_pos {t : T} {n : Nat} (h : RigOk n t) : ∀ l ∈ t.leaves, 1 ≤ l.2.1 := fun l hl => (h.leaf l hl).2.1
section
variable {P : Program} {w : World} {K : PySem.W.Frag} {mg : Str → Option Value} {base : Heap}
/-- the law: True at every script of at most 63 ints; ps: the tables of the defs with generator expressions -/
def spLaw (K : PySem.W.Frag) (ps : List Addr) : Sp := fun vs H Q _ => ∃ (a : Addr) (ns : List Int), vs = [.ref a] ∧ SqL K H a (ns.map V.int) ∧ ns.length ≤ 63 ∧ (∀ p ∈ ps, GxR.TabG H p) ∧ ∀ H', Q (.bl true) H'
end
/-- an item of some ints that are not negative, at a place that is there -/
theorem dig_at {ds : List Int} {i : Int} (hn : Nn ds) (h0 : 0 ≤ i) (h1 : i < ds.length) : ∃ d : Int, 0 ≤ d ∧ d ∈ ds ∧ atI (ds.map V.int) i = some (.int d) := by
  obtain ⟨d, hd, _, he⟩ := atI_ints h0 h1
  exact ⟨d, hn d hd, hd, he⟩
end Wr

set_option Elab.async false
set_option linter.all false
set_option maxRecDepth 100000
set_option maxHeartbeats 2000000
namespace Wr
open PySem PySem.Spec PyProof.Rows L2
/-! ### _law_supports -/
section
variable {P : Program} {w : World} {K : PySem.W.Frag} {mg : Str → Option Value} {base : Heap}
def spLSupp (K : PySem.W.Frag) : Sp := fun vs H Q _ => ∃ (v : V) (t : T) (b : Addr) (N : List Str) (L m : Int), vs = [v, .ref b, .int L, .int m] ∧ RigAt K H v t ∧ SqT K H b (N.map V.str) ∧ 0 ≤ m ∧ m ≤ 1000000 ∧ -(2 ^ 64) < L ∧ L < 2 ^ 64 ∧
  ∀ (r : Bool) (H' : Hp), Le H H' → (r = true ↔ Holds t (t.pw m) L (inL N)) → Q (.bl r) H'
theorem ok_lsupp (G : Gx K mg) (k : Nat) : FnOk P w K mg base CX0 (k + 9) G.f__law_supports G.fd__law_supports ["rig", "subset", "load", "lifts"] (spLSupp K) := by
  have G__law_strands := (ok_lstr (P := P) (w := w) (base := base) G k 6).mono (show 6 + k + 1 ≤ k + 8 by omega)
  have G__law_divisors := (ok_ldiv (P := P) (w := w) (base := base) G k 6).mono (show 6 + k + 1 ≤ k + 8 by omega)
  refine G.F__law_supports.ok sc__law_supports (fun vs H Q E h => ?_) (fun cdv A outer s H vs Q E hr h => ?_)
  · obtain ⟨v, t, b, N, L, m, rfl, _⟩ := h
    rfl
  obtain ⟨v, t, b, N, L, m, rfl, hR, hN, m0, m1, L0, L1, q⟩ := h
  have h6 := hR.len
  have hr : Room (k + 8) _ := hr
  refine ⟨_, (pss_cons (ps_set (i := 4) sc__law_supports.nd rfl (.inl rfl) (pe_call G__law_divisors hr (by rfl) G.m__law_divisors G.F__law_divisors.kp G.b__law_divisors .nil pass0 (pa_cons (pv 0) (pa_cons (pv 1) pa_nil))))
    (pss_cons (ps_for PassesOwn.never rfl (pi_list (pe_call G__law_strands hr (by rfl) G.m__law_strands G.F__law_strands.kp G.b__law_strands .nil pass0 (pa_cons (pv 0) pa_nil))) (pg_tup rfl (pgs_cons (pg_name (i := 5) sc__law_supports.nd rfl (.inl rfl)) (pgs_cons (pg_name (i := 6) sc__law_supports.nd rfl (.inl rfl)) (pgs_cons (pg_name (i := 7) sc__law_supports.nd rfl (.inl rfl)) pgs_nil))))
      (pss_one (ps_if (PW.pt (pw_and (pt_cmpR op_in_seq (pv 5) (pv 1) (by rfl)) (pw_and1 (pt_cmpR op_gt (pv 2) (pe_op op_mul (pe_op op_sub (pv 6) (pe_op op_mul (pv 3) (pv 7))) (pe_dget (hu1 hr) (pv 4) (pv 5) (fun _ _ => rfl))) (nomark _))))) (pss_one (ps_ret pe_bl)) pss_nil)))
    (pss_one (ps_ret pe_bl)))), ?_⟩
  refine ⟨_, rfl, _, rfl, v, t, H, b, N, rfl, Le.refl _, hR.dp, .inr hN, hR.ok, hR.len, by omega, hR.nd, fun p1 od1 H1 l1 hp1 h1 => ?_⟩
  refine ⟨_, rfl, v, t, H, rfl, l1, hR.dp, hR.ok, hR.len, by omega, fun p2 us H2 l2 hp2 h2 d2 => ?_⟩
  have len1 : us.length = t.leaves.length := by rw [dpAll_length d2, List.length_map]
  refine ⟨p2, rfl, ⟨us, sql h2⟩, ?_⟩
  refine for_list (xs := us) (fun i σ' H' => ∃ (y5 y6 y7 : Option V), σ' = [some v, some (.ref b), some (.int L), some (.int m), some (.ref p1), y5, y6, y7] ∧ Le H2 H' ∧ ∀ l ∈ t.leaves.take i, l.1 ∈ N → L ≤ t.pw m l.1 * t.dv (inL N) l.1) ⟨none, none, none, rfl, Le.refl _, fun l hl => by simp at hl⟩ (fun i σ' H' _ ⟨_, _, _, _, l3, _⟩ => sql (l3.lst h2)) ?_ ?_
  · rintro i x σ' H' hx ⟨y5, y6, y7, rfl, l3, hall⟩
    obtain ⟨d, hdi, hdx⟩ := dpAll_getV d2 hx
    have hi : i < t.leaves.length := by
      have := (List.getElem?_eq_some_iff.mp hx).1
      omega
    have hc : t.leaves[i]? = some t.leaves[i] := List.getElem?_eq_getElem hi
    have hm : t.leaves[i] ∈ t.leaves := List.getElem_mem hi
    generalize t.leaves[i] = lf at hc hm
    rw [List.getElem?_map, hc] at hdi
    obtain rfl : leafD lf = d := Option.some.inj hdi
    obtain ⟨a, rfl, hS⟩ := dp_leaf hdx
    have l13 := l1.trans (l2.trans l3)
    have et : t.leaves.take (i + 1) = t.leaves.take i ++ [lf] := by rw [List.take_succ, hc]; rfl
    have hnm : lf.1 ∈ t.names := List.mem_map.mpr ⟨lf, hm, rfl⟩
    have hpw := pw_leaf hR.nd hm m
    refine ⟨a, _, rfl, l13.sqt hS, rfl, _, _, rfl, _, _, rfl, _, _, rfl, rfl, ?_⟩
    refine ⟨_, rfl, _, rfl, b, _, rfl, .inr (l13.sqt hN), rfl, flat_strs N, _, rfl, ?_⟩
    rw [show (if false = true then !inV (V.str lf.1) (N.map V.str) else inV (V.str lf.1) (N.map V.str)) = decide (lf.1 ∈ N) by rw [if_neg Bool.false_ne_true, in_strs]]
    by_cases c : lf.1 ∈ N
    · rw [decide_eq_true c]
      refine iteT ?_
      have hdv := val_mem (div_nd hR.nd) (dv_mem (S := inL N) hnm (decide_eq_true c))
      have pwb := pw_small hR.lb m0 m1 lf.1
      rw [hpw] at pwb
      refine ⟨_, rfl, _, rfl, _, rfl, _, rfl, _, _, rfl, rfl, .inl ⟨by omega, by omega⟩, _, _, rfl, rfl, _, rfl, _, rfl, p1, .int (t.dv (inL N) lf.1), rfl, .inl ⟨_, Sum.inr lf.1, .inr ⟨od1, (l2.trans l3).frz h1⟩, rfl, hdv.symm⟩, _, _, rfl, rfl, .inl pwb, _, _, rfl, rfl, _, rfl, ?_⟩
      refine ite2 (fun c2 => ?_) (fun c2 => ?_)
      · have c2 := of_decide_eq_true c2
        refine q false H' l13 ⟨fun z => (by cases z), fun z => ?_⟩
        have := holds_dv hR.nd |>.mp z lf.1 hnm (decide_eq_true c)
        rw [hpw] at this
        omega
      · have c2 : ¬ (lf.2.1 - m * lf.2.2) * t.dv (inL N) lf.1 < L := fun z => c2 (decide_eq_true z)
        refine ⟨_, _, _, rfl, l3, fun l hl hn => ?_⟩
        rw [et] at hl
        rcases List.mem_append.mp hl with z | z
        · exact hall l z hn
        · rw [List.mem_singleton.mp z, hpw]
          omega
    · rw [decide_eq_false c]
      refine iteF ⟨_, _, _, rfl, l3, fun l hl hn => ?_⟩
      rw [et] at hl
      rcases List.mem_append.mp hl with z | z
      · exact hall l z hn
      · rw [List.mem_singleton.mp z] at hn
        exact absurd hn c
  · rintro σ' H' ⟨y5, y6, y7, rfl, l3, hall⟩
    rw [len1, List.take_length] at hall
    refine q true H' (l1.trans (l2.trans l3)) ⟨fun _ => ?_, fun _ => rfl⟩
    rw [holds_dv hR.nd]
    intro n hn hs
    obtain ⟨l, hl, rfl⟩ := List.mem_map.mp hn
    exact hall l hl (of_decide_eq_true hs)
end
end Wr

set_option Elab.async false
set_option linter.all false
set_option maxRecDepth 100000
set_option maxHeartbeats 2000000
namespace Wr
open PySem PySem.Spec PyProof.Rows L2
/-! ### orders of loads: pure -/
/-- no load more often than in Ls -/
def CntLe (o Ls : List Int) : Prop := ∀ x, o.count x ≤ Ls.count x
theorem cnt_perm : ∀ {o Ls : List Int}, CntLe o Ls → ∃ r, (o ++ r).Perm Ls
  | [], Ls, _ => ⟨Ls, .refl _⟩
  | x :: o, Ls, h => by
    have hx : x ∈ Ls := by
      have := h x
      rw [List.count_cons_self] at this
      exact List.count_pos_iff.mp (by omega)
    have h2 : CntLe o (Ls.erase x) := fun y => by
      have := h y
      rw [List.count_erase]
      by_cases e : y = x
      · subst e
        rw [List.count_cons_self] at this
        simp only [beq_self_eq_true, if_true]
        omega
      · rw [List.count_cons_of_ne (fun z => e z.symm)] at this
        rw [if_neg (by simpa using fun z => e z.symm)]
        omega
    obtain ⟨r, hr⟩ := cnt_perm h2
    exact ⟨r, (List.Perm.cons x hr).trans (List.perm_cons_erase hx).symm⟩
theorem cnt_all {o Ls : List Int} (hl : o.length = Ls.length) : CntLe o Ls ↔ o.Perm Ls := by
  constructor
  · intro h
    obtain ⟨r, hr⟩ := cnt_perm h
    have := hr.length_eq
    rw [List.length_append] at this
    have e : r = [] := List.length_eq_zero_iff.mp (by omega)
    rw [e, List.append_nil] at hr
    exact hr
  · intro h x
    rw [h.count_eq]
    exact Nat.le_refl _
/-- all orders of m of the loads -/
def AllOrd (Ls : List Int) (m : Nat) (os : List (List Int)) : Prop := ∀ o, o ∈ os ↔ o.length = m ∧ CntLe o Ls
theorem ord_zero (Ls : List Int) : AllOrd Ls 0 [[]] := fun o => by
  rw [List.mem_singleton]
  constructor
  · rintro rfl
    exact ⟨rfl, fun x => by simp⟩
  · rintro ⟨h, _⟩
    exact List.length_eq_zero_iff.mp h
theorem ord_step {Ls : List Int} {m : Nat} {os os2 : List (List Int)} (h : AllOrd Ls m os) (h2 : ∀ o, o ∈ os2 ↔ ∃ p ∈ os, ∃ x ∈ Ls, p.count x < Ls.count x ∧ o = p ++ [x]) : AllOrd Ls (m + 1) os2 := fun o => by
  rw [h2]
  constructor
  · rintro ⟨p, hp, x, hx, hc, rfl⟩
    obtain ⟨h1, h3⟩ := (h p).mp hp
    refine ⟨by rw [List.length_append, h1]; rfl, fun y => ?_⟩
    rw [List.count_append, List.count_singleton]
    have := h3 y
    split
    · rename_i e
      have e : x = y := by simpa using e
      subst e
      omega
    · omega
  · rintro ⟨h1, h3⟩
    have ne : o ≠ [] := fun e => by rw [e] at h1; simp at h1
    obtain ⟨p, x, rfl⟩ : ∃ p x, o = p ++ [x] := ⟨_, _, (List.dropLast_concat_getLast ne).symm⟩
    rw [List.length_append, List.length_singleton] at h1
    have hx := h3 x
    rw [List.count_append, List.count_singleton, if_pos (by simp)] at hx
    refine ⟨p, (h _).mpr ⟨by omega, fun y => ?_⟩, x, List.count_pos_iff.mp (by omega), by omega, rfl⟩
    have := h3 y
    rw [List.count_append] at this
    omega
theorem ord_all {Ls : List Int} {os : List (List Int)} (h : AllOrd Ls Ls.length os) (o : List Int) : o ∈ os ↔ o.Perm Ls := by
  rw [h o]
  constructor
  · rintro ⟨h1, h2⟩
    exact (cnt_all h1).mp h2
  · intro p
    exact ⟨p.length_eq, (cnt_all p.length_eq).mpr p⟩
/-! the descending order is the best, the ascending one the worst -/
def insD (x : Int) : List Int → List Int
  | [] => [x]
  | y :: r => if y ≤ x then x :: y :: r else y :: insD x r
def srtD : List Int → List Int
  | [] => []
  | x :: r => insD x (srtD r)
theorem insD_perm (x : Int) : ∀ r : List Int, (insD x r).Perm (x :: r)
  | [] => .refl _
  | y :: r => by
    unfold insD
    split
    · exact .refl _
    · exact ((insD_perm x r).cons y).trans (.swap x y r)
theorem srtD_perm : ∀ r : List Int, (srtD r).Perm r
  | [] => .refl _
  | x :: r => (insD_perm x _).trans ((srtD_perm r).cons x)
theorem insD_pw {x : Int} : ∀ {r : List Int}, r.Pairwise (fun a b => b ≤ a) → (insD x r).Pairwise (fun a b => b ≤ a)
  | [], _ => .cons (fun _ h => by cases h) .nil
  | y :: r, h => by
    obtain ⟨h1, h2⟩ := List.pairwise_cons.mp h
    unfold insD
    split
    · rename_i c
      refine .cons (fun z hz => ?_) h
      rcases List.mem_cons.mp hz with e | e
      · rw [e]; exact c
      · have := h1 z e
        omega
    · rename_i c
      refine .cons (fun z hz => ?_) (insD_pw h2)
      rcases List.mem_cons.mp ((insD_perm x r).mem_iff.mp hz) with e | e
      · rw [e]; omega
      · exact h1 z e
theorem srtD_pw : ∀ r : List Int, (srtD r).Pairwise (fun a b => b ≤ a)
  | [] => .nil
  | x :: r => insD_pw (srtD_pw r)
theorem srtD_eq (Ls : List Int) : srtD Ls = descL Ls := desc_uniq (srtD_perm Ls) (srtD_pw Ls)
section
variable {t : T}
theorem ins_run (nd : t.names.Nodup) (hw : LeafW t) {x : Int} (hx : 1 ≤ x) : ∀ (r : List Int) (j : Nat) (N : Str → Bool), (∀ L ∈ r, 1 ≤ L) → Sub (t.run j N (x :: r)) (t.run j N (insD x r))
  | [], j, N, _ => Sub.refl _
  | y :: r, j, N, h => by
    unfold insD
    split
    · exact Sub.refl _
    · rename_i c
      refine (swap_run nd hw (a := x) (b := y) (by omega) [] r (fun L hL => ?_) j N).trans (ins_run nd hw hx r (j + 1) _ fun L hL => h L (List.mem_cons_of_mem _ hL))
      rcases List.mem_cons.mp hL with e | e
      · rw [e]; exact hx
      · exact h L e
theorem sort_run (nd : t.names.Nodup) (hw : LeafW t) : ∀ (r : List Int) (j : Nat) (N : Str → Bool), (∀ L ∈ r, 1 ≤ L) → Sub (t.run j N r) (t.run j N (srtD r))
  | [], _, _, _ => Sub.refl _
  | x :: r, j, N, h => by
    have h1 := h x List.mem_cons_self
    have h2 : ∀ L ∈ r, 1 ≤ L := fun L hL => h L (List.mem_cons_of_mem _ hL)
    exact (show Sub (t.run j N (x :: r)) (t.run j N (x :: srtD r)) from sort_run nd hw r (j + 1) _ h2).trans (ins_run nd hw h1 (srtD r) j N fun L hL => h2 L ((srtD_perm r).mem_iff.mp hL))
/-- whatever remains after some order remains after the descending one -/
theorem left_desc (nd : t.names.Nodup) (hw : LeafW t) {o : List Int} (h : ∀ L ∈ o, 1 ≤ L) : Sub (t.left o) (t.left (descL o)) := by
  rw [← srtD_eq]
  exact sort_run nd hw o 0 t.all h
theorem desc_of_perm {o Ls : List Int} (h : o.Perm Ls) : descL o = descL Ls := desc_uniq ((desc_perm o).trans h) (by
  have := srtD_pw o
  rw [srtD_eq] at this
  exact this)
end
end Wr

set_option Elab.async false
set_option linter.all false
set_option maxRecDepth 100000
set_option maxHeartbeats 2000000
namespace Wr
open PySem PySem.Spec PyProof.Rows L2
/-! ### one load more, one load less, a lighter load -/
section
variable {t : T}
theorem run_anti (nd : t.names.Nodup) (hw : LeafW t) : ∀ (Ls : List Int) (i j : Nat) (N N' : Str → Bool), i ≤ j → (∀ L ∈ Ls, 1 ≤ L) → Sub N N' → Sub (t.run j N Ls) (t.run i N' Ls)
  | [], _, _, _, _, _, _, h => h
  | L :: Ls, i, j, N, N', hij, hL, h => run_anti nd hw Ls (i + 1) (j + 1) _ _ (by omega) (fun x hx => hL x (List.mem_cons_of_mem _ hx)) (best_mono nd h (fun n _ => pw_anti hw hij n) (hL L List.mem_cons_self) (Int.le_refl _))
theorem works_drop (nd : t.names.Nodup) (hw : LeafW t) {xs ys : List Int} {y : Int} (hp : ∀ L ∈ xs ++ y :: ys, 1 ≤ L) (h : t.works (xs ++ y :: ys)) : t.works (xs ++ ys) := by
  unfold T.works T.left at h ⊢
  rw [run_append] at h ⊢
  exact Some1.mono (run_anti nd hw ys _ _ _ _ (Nat.le_succ _) (fun L hL => hp L (List.mem_append_right _ (List.mem_cons_of_mem _ hL))) best_sub) h
theorem works_lighter (nd : t.names.Nodup) {xs ys : List Int} {y z : Int} (hp : ∀ L ∈ xs ++ y :: ys, 1 ≤ L) (z1 : 1 ≤ z) (zy : z ≤ y) (h : t.works (xs ++ y :: ys)) : t.works (xs ++ z :: ys) := by
  unfold T.works T.left at h ⊢
  rw [run_append] at h ⊢
  exact Some1.mono (run_mono nd ys _ _ _ (fun L hL => hp L (List.mem_append_right _ (List.mem_cons_of_mem _ hL))) (best_mono nd (Sub.refl _) (fun _ _ => Int.le_refl _) z1 zy)) h
theorem works_desc (nd : t.names.Nodup) (hw : LeafW t) {o Ls : List Int} (p : o.Perm Ls) (hp : ∀ L ∈ Ls, 1 ≤ L) (h : t.works o) : t.works (descL Ls) := by
  have := left_desc nd hw (o := o) fun L hL => hp L (p.mem_iff.mp hL)
  rw [desc_of_perm p] at this
  exact Some1.mono this h
theorem split_perm {Ls xs ys : List Int} {y : Int} (h : (xs ++ y :: ys).Perm (Ls ++ [y])) : (xs ++ ys).Perm Ls := by
  have a : (y :: (xs ++ ys)).Perm (y :: Ls) := (List.perm_middle.symm.trans h).trans (List.perm_append_singleton y Ls)
  exact a.cons_inv
theorem ex_mono (nd : t.names.Nodup) (hw : LeafW t) {Ls : List Int} {L L' : Int} (hp : ∀ x ∈ Ls, 1 ≤ x) (h1 : 1 ≤ L) (hL : L ≤ L') (h : t.works (descL (Ls ++ [L']))) : t.works (descL (Ls ++ [L])) := by
  have hm : L' ∈ descL (Ls ++ [L']) := (desc_perm _).mem_iff.mpr (List.mem_append_right _ List.mem_cons_self)
  have pd := desc_perm (Ls ++ [L'])
  obtain ⟨xs, ys, e⟩ := List.append_of_mem hm
  rw [e] at h pd
  have q : ∀ x ∈ xs ++ L' :: ys, 1 ≤ x := fun x hx => by
    rcases List.mem_append.mp (pd.mem_iff.mp hx) with z | z
    · exact hp x z
    · rw [List.mem_singleton.mp z]; omega
  have pl : (xs ++ L :: ys).Perm (Ls ++ [L]) := (List.perm_middle.trans ((split_perm pd).cons L)).trans (List.perm_append_singleton L Ls).symm
  refine works_desc nd hw pl (fun x hx => ?_) (works_lighter nd q h1 hL h)
  rcases List.mem_append.mp hx with z | z
  · exact hp x z
  · rw [List.mem_singleton.mp z]; exact h1
theorem ex_drop (nd : t.names.Nodup) (hw : LeafW t) {Ls : List Int} {L : Int} (hp : ∀ x ∈ Ls, 1 ≤ x) (h1 : 1 ≤ L) (h : t.works (descL (Ls ++ [L]))) : t.works (descL (Ls.drop 1 ++ [L])) := by
  cases Ls with
  | nil => exact h
  | cons y r =>
    have hm : y ∈ descL (y :: r ++ [L]) := (desc_perm _).mem_iff.mpr List.mem_cons_self
    have pd := desc_perm (y :: r ++ [L])
    obtain ⟨xs, ys, e⟩ := List.append_of_mem hm
    rw [e] at h pd
    have q0 : ∀ x ∈ y :: r ++ [L], 1 ≤ x := fun x hx => by
      rcases List.mem_append.mp hx with z | z
      · exact hp x z
      · rw [List.mem_singleton.mp z]; exact h1
    have pl : (xs ++ ys).Perm (r ++ [L]) := (List.perm_middle.symm.trans pd).cons_inv
    exact works_desc nd hw pl (fun x hx => q0 x (List.mem_cons_of_mem _ hx)) (works_drop nd hw (fun x hx => q0 x (pd.mem_iff.mp hx)) h)
end
/-- r: the smallest load, of 1 to 601, that is not feasible together with these -/
def ExR (t : T) (Ls : List Int) (r : Int) : Prop := 1 ≤ r ∧ r ≤ 601 ∧ ∀ L, 1 ≤ L → L ≤ 600 → (t.works (descL (Ls ++ [L])) ↔ L < r)
def exV (r : Int) : V := if 1 < r then .int (r - 1) else .non
def exD' (r : Int) : PyData := if 1 < r then .int (r - 1) else .none
theorem ExR.drop {t : T} {Ls : List Int} {r r' : Int} (nd : t.names.Nodup) (hw : LeafW t) (hp : ∀ x ∈ Ls, 1 ≤ x) (h : ExR t Ls r) (h' : ExR t (Ls.drop 1) r') : r ≤ r' := by
  obtain ⟨a1, a2, a3⟩ := h
  obtain ⟨b1, b2, b3⟩ := h'
  rcases Int.lt_or_le r' r with c | c
  · have := ex_drop nd hw hp b1 ((a3 r' b1 (by omega)).mpr c)
    have := (b3 r' b1 (by omega)).mp this
    omega
  · exact c
/-! ### the capacity lies below 600 -/
theorem small_one {α : Type} : ∀ qs : List (List α), qs ≠ [] → ∃ p ∈ qs, qs.length * p.length ≤ (qs.map List.length).sum
  | [], h => absurd rfl h
  | [p], _ => ⟨p, List.mem_cons_self, by simp⟩
  | q :: q2 :: r, _ => by
    obtain ⟨p, hp, h⟩ := small_one (q2 :: r) (by simp)
    rw [List.map_cons, List.sum_cons, List.length_cons]
    by_cases c : q.length ≤ p.length
    · refine ⟨q, List.mem_cons_self, ?_⟩
      have := Nat.mul_le_mul_left (q2 :: r).length c
      rw [Nat.succ_mul]
      omega
    · refine ⟨p, List.mem_cons_of_mem _ hp, ?_⟩
      rw [Nat.succ_mul]
      omega
theorem share_len (ps : List Dv) : (share ps).length = ((ps.filter fun p => !p.isEmpty).map List.length).sum := by
  unfold share
  rw [List.length_flatMap]
  congr 1
  refine List.map_congr_left fun p _ => ?_
  rw [List.length_map]
mutual
theorem min_div (S : Str → Bool) : ∀ t : T, t.div S ≠ [] → ∃ x ∈ t.div S, x.2 ≤ ((t.div S).length : Nat)
  | .leaf n p w, h => by
    unfold T.div at h ⊢
    by_cases c : S n = true
    · rw [if_pos c]
      exact ⟨_, List.mem_cons_self, Int.le_refl _⟩
    · rw [if_neg c] at h
      exact absurd rfl h
  | .node ts, h => by
    have ih := min_divL S ts
    rw [T.div] at h ⊢
    have ne : ((T.divL S ts).filter fun p => !p.isEmpty) ≠ [] := fun e => h (by unfold share; rw [e]; rfl)
    obtain ⟨p, hp, hl⟩ := small_one _ ne
    obtain ⟨h1, h2⟩ := List.mem_filter.mp hp
    obtain ⟨x, hx, hxl⟩ := ih p h1 fun e => by rw [e] at h2; cases h2
    refine ⟨(x.1, x.2 * (((T.divL S ts).filter fun p => !p.isEmpty).length : Nat)), ?_, ?_⟩
    · unfold share
      exact List.mem_flatMap.mpr ⟨p, hp, List.mem_map.mpr ⟨x, hx, rfl⟩⟩
    · rw [share_len]
      show x.2 * _ ≤ _
      have a := Int.mul_le_mul_of_nonneg_right hxl (show (0 : Int) ≤ (((T.divL S ts).filter fun p => !p.isEmpty).length : Nat) by omega)
      have b : ((p.length : Nat) : Int) * (((T.divL S ts).filter fun p => !p.isEmpty).length : Nat) ≤ ((((T.divL S ts).filter fun p => !p.isEmpty).map List.length).sum : Nat) := by
        rw [← Int.natCast_mul, Nat.mul_comm]
        exact Int.ofNat_le.mpr hl
      omega
theorem min_divL (S : Str → Bool) : ∀ ts : List T, ∀ p ∈ T.divL S ts, p ≠ [] → ∃ x ∈ p, x.2 ≤ (p.length : Nat)
  | [], _, h, _ => by cases h
  | t :: r, p, h, ne => by
    rw [T.divL] at h
    rcases List.mem_cons.mp h with e | e
    · subst e
      exact min_div S t ne
    · exact min_divL S r p e ne
end
theorem cap_le {t : T} {c : Int} (nd : t.names.Nodup) (len : t.leaves.length ≤ 6) (hs : ∀ l ∈ t.leaves, 1 ≤ l.2.1 ∧ l.2.1 ≤ 99) (h : IsCap t c) : c ≤ 594 := by
  obtain ⟨S, sa, s1, hh⟩ := h.can
  have ne : t.div S ≠ [] := fun e => (div_none sa).mp (by rw [e]; rfl) s1
  obtain ⟨x, hx, hl⟩ := min_div S t ne
  have kl : (t.div S).length ≤ 6 := by
    have e := congrArg List.length (T.div_keys S t)
    rw [List.length_map] at e
    have e2 : (t.names.filter S).length ≤ t.names.length := List.length_filter_le _ _
    have e3 : t.names.length = t.leaves.length := List.length_map _
    omega
  obtain ⟨hn, hS⟩ := T.div_name hx
  obtain ⟨d, hd, hc⟩ := whole_iff.mp (hh x.1 hn hS)
  have ed := T.div_mono (S := S) (S' := S) (fun _ z => z) t nd (x.1, d) hd x hx rfl
  have ed : d ≤ x.2 := ed
  have d1 := T.div_pos S t _ hd
  have d1 : 1 ≤ d := d1
  obtain ⟨l, hlm, el⟩ := List.mem_map.mp hn
  have pb : t.pw ((0 : Nat)) x.1 ≤ 99 ∧ 0 ≤ t.pw ((0 : Nat)) x.1 := by
    unfold T.pw
    cases hf : t.leaves.find? fun l => decide (l.1 = x.1) with
    | none =>
      have := List.find?_eq_none.mp hf l hlm
      exact absurd (decide_eq_true el) this
    | some l2 =>
      have := hs l2 (List.mem_of_find?_eq_some hf)
      show l2.2.1 - ((0 : Nat) : Int) * l2.2.2 ≤ 99 ∧ 0 ≤ l2.2.1 - ((0 : Nat) : Int) * l2.2.2
      have z : ((0 : Nat) : Int) * l2.2.2 = 0 := Int.zero_mul _
      omega
  have d6 : d ≤ 6 := by omega
  have m1 : t.pw ((0 : Nat)) x.1 * d ≤ 99 * 6 := Int.mul_le_mul pb.1 d6 (by omega) (by decide)
  omega
theorem cap_one {t : T} {c L : Int} (nd : t.names.Nodup) (h : IsCap t c) (h1 : 1 ≤ L) : t.works [L] ↔ L ≤ c := by
  have ew : t.works [L] ↔ Some1 (t.best (t.pw ((0 : Nat))) L t.all) := Iff.rfl
  rw [ew]
  constructor
  · rintro ⟨n, hn⟩
    exact h.most _ L best_all ⟨n, hn⟩ (best_holds nd h1)
  · intro hc
    obtain ⟨S, sa, s1, hh⟩ := h.can
    exact Some1.mono (best_most sa sa (holds_mono nd (fun _ _ => Int.le_refl _) h1 hc hh)) s1
theorem ex_cap {t : T} {c r : Int} (nd : t.names.Nodup) (h : IsCap t c) (h6 : c ≤ 600) (e : ExR t [] r) : r = c + 1 := by
  have iff : ∀ L : Int, 1 ≤ L → (t.works [L] ↔ L ≤ c) := fun L h1 => cap_one nd h h1
  obtain ⟨a1, a2, a3⟩ := e
  have one : ∀ L : Int, descL ([] ++ [L]) = [L] := fun L => (desc_uniq (.refl _) (.cons (fun _ h => by cases h) .nil)).symm
  have c1 := h.pos
  have x := (a3 c c1 h6).mp (by rw [one]; exact (iff c c1).mpr (Int.le_refl _))
  rcases Int.lt_or_le (c + 1) r with z | z
  · have y := (a3 (c + 1) (by omega) (by omega)).mpr z
    rw [one] at y
    have := (iff (c + 1) (by omega)).mp y
    omega
  · omega
end Wr

set_option Elab.async false
set_option linter.all false
set_option maxRecDepth 100000
set_option maxHeartbeats 2000000
namespace Wr
open PySem PySem.Spec PyProof.Rows L2
/-! ### repeat counts by subsets: pure -/
section
variable {t : T} {L : Int} {S : Str → Bool}
theorem holds_less (nd : t.names.Nodup) (hw : LeafW t) (h1 : 1 ≤ L) {i k : Nat} (hi : i ≤ k) (h : Holds t (t.pw (k : Nat)) L S) : Holds t (t.pw (i : Nat)) L S := holds_mono nd (fun n _ => pw_anti hw hi n) h1 (Int.le_refl _) h
theorem sub_left (nd : t.names.Nodup) (hw : LeafW t) (h1 : 1 ≤ L) (hs : Sub S t.all) {k : Nat} (h : Holds t (t.pw (k : Nat)) L S) : ∀ i, i ≤ k + 1 → Sub S (t.left (List.replicate i L))
  | 0, _ => hs
  | i + 1, hi => by
    rw [left_rep]
    exact best_most hs (sub_left nd hw h1 hs h i (by omega)) (holds_less nd hw h1 (show i ≤ k by omega) h)
theorem works_of (nd : t.names.Nodup) (hw : LeafW t) (h1 : 1 ≤ L) (hs : Sub S t.all) (ss : Some1 S) {k : Nat} (h : Holds t (t.pw (k : Nat)) L S) : t.works (List.replicate (k + 1) L) := Some1.mono (sub_left nd hw h1 hs h (k + 1) (Nat.le_refl _)) ss
theorem left_holds (nd : t.names.Nodup) (h1 : 1 ≤ L) (c : Nat) : Holds t (t.pw (c : Nat)) L (lf t L (c + 1)) := by
  show Holds t _ L (t.left (List.replicate (c + 1) L))
  rw [left_rep]
  exact best_holds nd h1
/-- how often these strands lift the load, at most 120 times -/
def SupK (t : T) (L : Int) (S : Str → Bool) (c : Nat) : Prop := c ≤ 120 ∧ (∀ i, i < c → Holds t (t.pw (i : Nat)) L S) ∧ (c < 120 → ¬ Holds t (t.pw (c : Nat)) L S)
theorem rep_small (nd : t.names.Nodup) (hw : LeafW t) (hp : ∀ l ∈ t.leaves, l.2.1 ≤ 99) (h1 : 1 ≤ L) {c : Nat} (h : RepS t L c) : c < 120 := by
  cases c with
  | zero => decide
  | succ c =>
    have hh := left_holds (t := t) nd h1 c
    have ex : ∃ l ∈ t.leaves, lf t L (c + 1) l.1 = true ∧ 0 < l.2.2 := Classical.byContradiction fun z => h.2 (rep_none (c := c) nd hw h1 h.1 (fun l hl hs => Classical.byContradiction fun y => z ⟨l, hl, hs, by omega⟩) (c + 1 + 1))
    obtain ⟨l, hl, hs, hw1⟩ := ex
    have hn : l.1 ∈ t.names := List.mem_map.mpr ⟨l, hl, rfl⟩
    have z := (holds_dv nd).mp hh l.1 hn hs
    rw [pw_leaf0 nd hl] at z
    have d1 := dv_pos hn hs
    have pl := hp l hl
    have h0 : 0 < l.2.1 - (c : Nat) * l.2.2 := by
      rcases Int.lt_or_le 0 (l.2.1 - ((c : Nat) : Int) * l.2.2) with y | y
      · exact y
      · have := Int.mul_nonpos_of_nonpos_of_nonneg y (show 0 ≤ t.dv (lf t L (c + 1)) l.1 by omega)
        omega
    have m1 : ((c : Nat) : Int) * 1 ≤ ((c : Nat) : Int) * l.2.2 := Int.mul_le_mul_of_nonneg_left (by omega) (by omega)
    omega
/-- E: all subsets; m: the largest number -/
theorem most_inf (nd : t.names.Nodup) (hw : LeafW t) (h1 : 1 ≤ L) {V : (Str → Bool) → Nat → Prop} (hV : ∀ S c, V S c → SupK t L S c) {E : List (Str → Bool)} {m : Nat} (hE : ∀ S, Sub S t.all → Some1 S → S ∈ E) (hm : ∃ S ∈ E, V S m) (hmax : ∀ S ∈ E, ∃ c, V S c ∧ c ≤ m)
    {c : Nat} (wk : t.works (List.replicate (c + 1) L)) (ht : ∀ l ∈ t.leaves, lf t L (c + 1) l.1 = true → l.2.2 ≤ 0) : m = 120 := by
  obtain ⟨S0, _, v0⟩ := hm
  have m120 := (hV _ _ v0).1
  obtain ⟨k, vk, km⟩ := hmax (lf t L (c + 1)) (hE _ (left_all _) wk)
  obtain ⟨k1, k2, k3⟩ := hV _ _ vk
  rcases Nat.lt_or_ge k 120 with z | z
  · exact absurd (no_lim nd hw (left_holds nd h1 c) ht (k : Nat)) (k3 z)
  · omega
theorem most_fin (nd : t.names.Nodup) (hw : LeafW t) (hp : ∀ l ∈ t.leaves, l.2.1 ≤ 99) (h1 : 1 ≤ L) {V : (Str → Bool) → Nat → Prop} (hV : ∀ S c, V S c → SupK t L S c) {E : List (Str → Bool)} {m : Nat} (hE : ∀ S, Sub S t.all → Some1 S → S ∈ E) (hEs : ∀ S ∈ E, Sub S t.all ∧ Some1 S) (hm : ∃ S ∈ E, V S m) (hmax : ∀ S ∈ E, ∃ c, V S c ∧ c ≤ m)
    {c : Nat} (rs : RepS t L c) : m = c := by
  obtain ⟨S0, e0, v0⟩ := hm
  obtain ⟨a1, a2, a3⟩ := hV _ _ v0
  obtain ⟨s1, s2⟩ := hEs _ e0
  have le : m ≤ c := by
    cases m with
    | zero => exact Nat.zero_le _
    | succ m =>
      have w := works_of nd hw h1 s1 s2 (a2 m (Nat.lt_succ_self m))
      rcases Nat.lt_or_ge c (m + 1) with z | z
      · exact absurd (rep_less (show c + 1 ≤ m + 1 by omega) w) rs.2
      · exact z
  cases c with
  | zero => omega
  | succ c =>
    have c120 := rep_small nd hw hp h1 rs
    obtain ⟨k, vk, km⟩ := hmax (lf t L (c + 1)) (hE _ (left_all _) rs.1)
    obtain ⟨k1, k2, k3⟩ := hV _ _ vk
    rcases Nat.lt_or_ge k (c + 1) with z | z
    · exact absurd (holds_less nd hw h1 (show k ≤ c by omega) (left_holds nd h1 c)) (k3 (by omega))
    · omega
end
end Wr

set_option Elab.async false
set_option linter.all false
set_option maxRecDepth 100000
set_option maxHeartbeats 2000000
namespace Wr
open PySem PySem.Spec PyProof.Rows L2
/-! ### _law_subsets -/
def subsRG {α : Type} : List α → List (List α)
  | [] => [[]]
  | x :: r => subsRG r ++ (subsRG r).map (· ++ [x])
def subsG {α : Type} (ns : List α) : List (List α) := subsRG ns.reverse
theorem subsG_snoc {α : Type} (ns : List α) (x : α) : subsG (ns ++ [x]) = subsG ns ++ (subsG ns).map (· ++ [x]) := by
  unfold subsG
  rw [List.reverse_append]
  rfl
theorem subsRG_len {α : Type} : ∀ r : List α, (subsRG r).length = 2 ^ r.length
  | [] => rfl
  | x :: r => by
    rw [subsRG, List.length_append, List.length_map, subsRG_len r, List.length_cons, Nat.pow_succ]
    omega
theorem subsG_len {α : Type} (ns : List α) : (subsG ns).length = 2 ^ ns.length := by
  unfold subsG
  rw [subsRG_len, List.length_reverse]
theorem subsRG_mem {α : Type} : ∀ (r s : List α), s ∈ subsRG r ↔ s.Sublist r.reverse
  | [], s => by
    rw [subsRG, List.mem_singleton, List.reverse_nil, List.sublist_nil]
  | x :: r, s => by
    rw [subsRG, List.mem_append, List.mem_map, List.reverse_cons, subsRG_mem r s, List.sublist_append_iff]
    constructor
    · rintro (h | ⟨a, ha, rfl⟩)
      · exact ⟨s, [], (List.append_nil s).symm, h, List.nil_sublist _⟩
      · exact ⟨a, [x], rfl, (subsRG_mem r a).mp ha, List.Sublist.refl _⟩
    · rintro ⟨a, b, rfl, h1, h2⟩
      cases h2 with
      | cons _ h2 =>
        rw [List.sublist_nil] at h2
        rw [h2, List.append_nil]
        exact .inl h1
      | cons_cons _ h2 =>
        rw [List.sublist_nil] at h2
        rw [h2]
        exact .inr ⟨a, (subsRG_mem r a).mpr h1, rfl⟩
theorem subsG_mem {α : Type} (ns s : List α) : s ∈ subsG ns ↔ s.Sublist ns := by
  unfold subsG
  rw [subsRG_mem, List.reverse_reverse]
theorem subsRG_map {α β : Type} (f : α → β) : ∀ r : List α, subsRG (r.map f) = (subsRG r).map (List.map f)
  | [] => rfl
  | x :: r => by
    rw [List.map_cons, subsRG, subsRG, subsRG_map f r, List.map_append, List.map_map, List.map_map]
    congr 1
    refine List.map_congr_left fun s _ => ?_
    show s.map f ++ [f x] = (s ++ [x]).map f
    rw [List.map_append]
    rfl
theorem subsG_map {α β : Type} (f : α → β) (r : List α) : subsG (r.map f) = (subsG r).map (List.map f) := by
  unfold subsG
  rw [← List.map_reverse, subsRG_map]
/-- a key as data -/
def keyP : L2.Key → PyData
  | .inl i => .int i
  | .inr s => .str s
theorem keyP_dp {K : PySem.W.Frag} {H : Hp} : ∀ k : L2.Key, Dp K H (kV k) (keyP k)
  | .inl i => .int i
  | .inr s => .str s
def subK (s : List L2.Key) : PyData := .tuple (s.map keyP)
/-- with its length ahead -/
def szK (s : List L2.Key) : PyData := .tuple [.int (s.length : Nat), subK s]
theorem keysP_dp {K : PySem.W.Frag} {H : Hp} : ∀ s : List L2.Key, DpAll K H (s.map kV) (s.map keyP)
  | [] => .nil
  | x :: r => .cons (keyP_dp x) (keysP_dp r)
theorem subK_of {K : PySem.W.Frag} {H : Hp} {a : Addr} {s : List L2.Key} (h : SqT K H a (s.map kV)) : Dp K H (.ref a) (subK s) := .tup h (keysP_dp s)
theorem kV_of {K : PySem.W.Frag} {H : Hp} {v : V} {k : L2.Key} (h : Dp K H v (keyP k)) : v = kV k := by
  cases k with
  | inl i => cases h; rfl
  | inr s => cases h; rfl
theorem dpAll_keys {K : PySem.W.Frag} {H : Hp} : ∀ {us : List V} {s : List L2.Key}, DpAll K H us (s.map keyP) → us = s.map kV
  | _, [], h => by
    cases h
    rfl
  | _, x :: r, h => by
    rw [List.map_cons] at h
    obtain ⟨u, ur, rfl, h1, h2⟩ := dpAll_cons h
    rw [kV_of h1, dpAll_keys h2, List.map_cons]
theorem of_subK {K : PySem.W.Frag} {H : Hp} {v : V} {s : List L2.Key} (h : Dp K H v (subK s)) : ∃ a, v = .ref a ∧ SqT K H a (s.map kV) := by
  unfold subK at h
  cases h with
  | tup h r =>
    rw [dpAll_keys r] at h
    exact ⟨_, rfl, h⟩
theorem tupO_key (k : L2.Key) : tupO (keyP k) = true := by cases k <;> rfl
theorem tupO_subK (s : List L2.Key) : tupO (subK s) = true := by
  unfold subK tupO
  rw [tupOL_all]
  intro d hd
  obtain ⟨x, _, rfl⟩ := List.mem_map.mp hd
  exact tupO_key x
theorem tupO_szK (s : List L2.Key) : tupO (szK s) = true := by
  unfold szK tupO
  rw [tupOL_all]
  intro d hd
  rcases List.mem_cons.mp hd with z | z
  · rw [z]; rfl
  · rw [List.mem_singleton.mp z]
    exact tupO_subK s
theorem tupO_map {α : Type} {f : α → PyData} (h : ∀ x, tupO (f x) = true) (l : List α) : tupOL (l.map f) = true := tupOL_all.mpr fun d hd => by
  obtain ⟨x, _, rfl⟩ := List.mem_map.mp hd
  exact h x
/-- the keys are of one kind -/
def OneKind (ks : List L2.Key) : Prop := (∀ k ∈ ks, ∃ i, k = .inl i) ∨ ∀ k ∈ ks, ∃ s, k = .inr s
theorem alike_subs {ks : List L2.Key} (h : OneKind ks) {s s' : List L2.Key} (hs : ∀ k ∈ s, k ∈ ks) (hs' : ∀ k ∈ s', k ∈ ks) : PySem.W.alikeAll (s.map keyP) (s'.map keyP) = true := by
  induction s generalizing s' with
  | nil => cases s' <;> simp [PySem.W.alikeAll]
  | cons x r ih =>
    cases s' with
    | nil => simp [PySem.W.alikeAll]
    | cons y r' =>
      have i2 := ih (fun k hk => hs k (List.mem_cons_of_mem _ hk)) (s' := r') fun k hk => hs' k (List.mem_cons_of_mem _ hk)
      have hx := hs x List.mem_cons_self
      have hy := hs' y List.mem_cons_self
      have e : PySem.W.alike (keyP x) (keyP y) = true := by
        rcases h with h | h
        · obtain ⟨i, rfl⟩ := h x hx
          obtain ⟨j, rfl⟩ := h y hy
          simp [keyP, PySem.W.alike]
        · obtain ⟨i, rfl⟩ := h x hx
          obtain ⟨j, rfl⟩ := h y hy
          simp [keyP, PySem.W.alike]
      rw [List.map_cons, List.map_cons, PySem.W.alikeAll, e, i2]
      rfl
/-- the order of the subsets: by length, then as tuples -/
def leK (a b : List L2.Key) : Bool := D2.leD false (szK a) (szK b)
def sortedSubs (ks : List L2.Key) : List (List L2.Key) := (subsG ks).mergeSort leK
theorem depth_key (k : L2.Key) : (keyP k).depth = 0 := by cases k <;> simp [keyP, PyData.depth]
theorem depth_keys : ∀ s : List L2.Key, PyData.depthAll (s.map keyP) = 0
  | [] => by rw [List.map_nil, PyData.depthAll]
  | x :: r => by rw [List.map_cons, PyData.depthAll, depth_key, depth_keys r]; rfl
theorem rcat {K : PySem.W.Frag} {H : Hp} {a b : Addr} {xs ys : List V} {Q : VK} (h : SqT K H a xs) (h2 : SqT K H b ys) (hl : xs.length + ys.length ≤ sizeLine) (q : ∀ (p : Addr) (H' : Hp), Le H H' → SqT K H' p (xs ++ ys) → Q (.ref p) H') : rCatA K (.ref a) (.ref b) H Q := by
  refine ⟨a, b, xs, ys, rfl, rfl, h, h2, hl, fun e => q b H (Le.refl _) ?_, fun _ e => q a H (Le.refl _) ?_, fun _ _ p hp => q p _ (Le.new hp) (sqt upd_same)⟩
  · rw [e]
    exact h2
  · rw [e, List.append_nil]
    exact h
section
variable {P : Program} {w : World} {K : PySem.W.Frag} {mg : Str → Option Value} {base : Heap}
def spSubs (K : PySem.W.Frag) : Sp := fun vs H Q _ => ∃ (a : Addr) (ks : List L2.Key), vs = [.ref a] ∧ SqL K H a (ks.map kV) ∧ ks.length ≤ 6 ∧ OneKind ks ∧
  ∀ (p : Addr) (us : List V) (H' : Hp), Le H H' → H p = none → H' p = some (.lst us) → DpAll K H' us ((sortedSubs ks).map subK) → Q (.ref p) H'
theorem ok_subs (G : Gx K mg) (k : Nat) : FnOk P w K mg base CX0 (k + 1) G.f__law_subsets G.fd__law_subsets ["items"] (spSubs K) := by
  refine G.F__law_subsets.ok sc__law_subsets (fun vs H Q E h => ?_) (fun cdv A outer s H vs Q E hr h => ?_)
  · obtain ⟨a, ks, rfl, _⟩ := h
    rfl
  obtain ⟨a, ks, rfl, ha, hk6, hone, q⟩ := h
  refine ⟨_, (pss_cons (ps_set (i := 1) sc__law_subsets.nd rfl (.inl rfl) (pe_lst (pa_cons (pe_tup pa_nil) pa_nil)))
    (pss_cons (ps_for PassesOwn.never rfl (pi_list (pv 0)) (pg_name (i := 2) sc__law_subsets.nd rfl (.inr rfl))
      (pss_one (ps_set (i := 1) sc__law_subsets.nd rfl (.inl rfl) (pe_op op_cat (pv 1) (pe_lc (own := [("subset", 4)]) (g := gName 4) (tt := tYes) (by rfl) sc__law_subsets.nd (pi_list (pv 1)) (blkOk_by (own := [("subset", 4)]) (N := N__law_subsets) (sc := defScope s__law_subsets) (by decide +kernel)) (fun _ _ _ _ _ => (pg_name (i := 4) sc__law_subsets.nd rfl (.inl rfl) (.inr rfl))) (fun _ _ _ _ _ => pts_nil) (fun _ _ _ _ _ => (pe_op (r := rCatA K) op_catA (pv 4) (pe_tup (pa_cons (pv 2) pa_nil)))))))))
    (pss_one (ps_ret (pe_lc (own := [("size", 3), ("subset", 4)]) (g := gTup K 2 (gCons (gName 3) (gCons (gName 4) gNil))) (tt := tYes) (by rfl) sc__law_subsets.nd (pi_list (pe_callB (D2.cr_sortD hr.units) (by rfl) G.sorted (by decide +kernel) (pa_cons (pe_lc (own := [("subset", 4)]) (g := gName 4) (tt := tYes) (by rfl) sc__law_subsets.nd (pi_list (pv 1)) (blkOk_by (own := [("subset", 4)]) (N := N__law_subsets) (sc := defScope s__law_subsets) (by decide +kernel)) (fun _ _ _ _ _ => (pg_name (i := 4) sc__law_subsets.nd rfl (.inl rfl) (.inr rfl))) (fun _ _ _ _ _ => pts_nil) (fun _ _ _ _ _ => (pe_tup (pa_cons (pe_callB (r := rLenS K) call_len_seq (by rfl) G.len PySem.boot_len (pa_cons (pv 4) pa_nil)) (pa_cons (pv 4) pa_nil))))) pa_nil))) (blkOk_by (own := [("size", 3), ("subset", 4)]) (N := N__law_subsets) (sc := defScope s__law_subsets) (by decide +kernel)) (fun _ _ _ _ _ => (pg_tup (n := 2) rfl (pgs_cons (pg_name (i := 3) sc__law_subsets.nd rfl (.inl rfl) (.inr rfl)) (pgs_cons (pg_name (i := 4) sc__law_subsets.nd rfl (.inl rfl) (.inr rfl)) pgs_nil)))) (fun _ _ _ _ _ => pts_nil) (fun _ _ _ _ _ => (pv 4))))))), ?_⟩
  refine ⟨Nat.zero_le _, fun e0 he0 => ⟨(by decide : 1 ≤ sizeLine), fun p0 hp0 => ?_⟩⟩
  have lA := (Le.new (o := .tup []) he0).trans (Le.new (o := .lst [.ref e0]) hp0)
  have hsub0 : upd (upd H e0 (.tup [])) p0 (.lst [.ref e0]) p0 = some (.lst [.ref e0]) := upd_same
  have he0' : upd (upd H e0 (.tup [])) p0 (.lst [.ref e0]) e0 = some (.tup []) := by
    rw [upd_ne (ne_of_none upd_same hp0), upd_same]
  generalize upd (upd H e0 (.tup [])) p0 (.lst [.ref e0]) = HA at lA hsub0 he0'
  have kl : (ks.map kV).length = ks.length := List.length_map _
  have p2 : ∀ i, i ≤ 6 → 2 ^ i ≤ 64 := by decide
  refine ⟨_, rfl, a, rfl, ⟨_, lA.sql ha⟩, ?_⟩
  refine for_list (xs := ks.map kV) (fun i σ' H' => ∃ (p : Addr) (us : List V) (y2 : Option V), σ' = [some (.ref a), some (.ref p), y2, none, none] ∧ Le HA H' ∧ H' p = some (.lst us) ∧ DpAll K H' us ((subsG (ks.take i)).map subK))
    ⟨p0, [.ref e0], none, rfl, Le.refl _, hsub0, .cons (subK_of (s := []) (sqt he0')) .nil⟩ (fun i σ' H' _ ⟨_, _, _, _, l, _⟩ => (lA.trans l).sql ha) ?_ ?_
  · rintro i x σ' H' hx ⟨p, us, y2, rfl, lC, hp, hus⟩
    rw [List.getElem?_map] at hx
    cases hc : ks[i]? with
    | none => rw [hc] at hx; cases hx
    | some nm =>
      rw [hc] at hx
      cases hx
      have hi : i < ks.length := (List.getElem?_eq_some_iff.mp hc).1
      have ul := dpAll_length hus
      rw [List.length_map, subsG_len, List.length_take] at ul
      have ub := p2 (min i ks.length) (by omega)
      refine ⟨_, rfl, _, rfl, p, rfl, ⟨us, sql hp⟩, fun D3 hD3 => ?_⟩
      refine lc_list (xs := us) (fun j H4 => Le H' H4 ∧ ∃ acc, H4 D3 = some (.lst acc) ∧ DpAll K H4 acc (((subsG (ks.take i)).take j).map fun s => subK (s ++ [nm]))) ⟨Le.new hD3, [], upd_same, .nil⟩ (fun j H4 _ ⟨l4, _⟩ => sql (l4.lst hp)) ?_ ?_
      · rintro j x H4 hx ⟨l4, acc, hacc, dacc⟩
        obtain ⟨d, hdj, hdx⟩ := dpAll_getV hus hx
        have hj : j < (subsG (ks.take i)).length := by
          have := (List.getElem?_eq_some_iff.mp hx).1
          rw [dpAll_length hus, List.length_map] at this
          exact this
        have hs : (subsG (ks.take i))[j]? = some (subsG (ks.take i))[j] := List.getElem?_eq_getElem hj
        have sm : (subsG (ks.take i))[j] ∈ subsG (ks.take i) := List.getElem_mem hj
        generalize (subsG (ks.take i))[j] = sj at hs sm
        rw [List.getElem?_map, hs] at hdj
        obtain rfl : subK sj = d := Option.some.inj hdj
        obtain ⟨b, rfl, hS⟩ := of_subK hdx
        have sl : sj.length ≤ 6 := by
          have := ((subsG_mem _ _).mp sm).length_le
          rw [List.length_take] at this
          omega
        have al := dpAll_length dacc
        rw [List.length_map, List.length_take, subsG_len, List.length_take] at al
        have et : (((subsG (ks.take i)).take (j + 1)).map fun s => subK (s ++ [nm])) = (((subsG (ks.take i)).take j).map fun s => subK (s ++ [nm])) ++ [subK (sj ++ [nm])] := by
          rw [List.take_succ, hs, List.map_append]
          rfl
        refine ⟨rfl, yes_go ⟨_, rfl, _, rfl, (by decide : 1 ≤ sizeLine), fun p5 hp5 => ?_⟩⟩
        have l5 := Le.new (o := .tup [kV nm]) hp5
        refine rcat ((l4.trans l5).sqt hS) (sqt upd_same) (sz (by rw [List.length_map]; show sj.length + 1 ≤ _; omega)) fun p6 H6 l6 h6 => ?_
        have h6 : SqT K H6 p6 ((sj ++ [nm]).map kV) := by
          rw [List.map_append]
          exact h6
        have l46 := l5.trans l6
        refine ⟨acc, l46.lst hacc, szlt (by omega), (l4.trans l46).mut hD3, _, upd_same, ?_⟩
        rw [et]
        exact dpAll_append (dpAll_upd (l46.lst hacc) (tupO_map (fun s => tupO_subK _) _) (l46.dpAll dacc)) (.cons (dp_upd (l46.lst hacc) (tupO_subK _) (subK_of h6)) .nil)
      · rintro H4 ⟨l4, acc, hacc, dacc⟩
        have ul2 : us.length = (subsG (ks.take i)).length := by rw [dpAll_length hus, List.length_map]
        rw [ul2, List.take_length] at dacc
        have al := dpAll_length dacc
        rw [List.length_map, subsG_len, List.length_take] at al
        refine ⟨p, D3, us, acc, rfl, rfl, l4.lst hp, hacc, sz (by omega), fun p6 hp6 => ?_⟩
        have l6 := Le.new (o := .lst (us ++ acc)) hp6
        refine ⟨p6, us ++ acc, _, rfl, lC.trans (l4.trans l6), upd_same, ?_⟩
        have es : subsG (ks.take (i + 1)) = subsG (ks.take i) ++ (subsG (ks.take i)).map (· ++ [nm]) := by
          rw [List.take_succ, hc]
          exact subsG_snoc _ _
        rw [es, List.map_append, List.map_map]
        exact dpAll_append ((l4.trans l6).dpAll hus) (l6.dpAll dacc)
  rintro σ' H' ⟨p, us, y2, rfl, lC, hp, hus⟩
  rw [kl, List.take_length] at hus
  have ul := dpAll_length hus
  rw [List.length_map, subsG_len] at ul
  have ub := p2 ks.length hk6
  -- pairs of a length and a subset
  refine ⟨_, rfl, p, rfl, ⟨us, sql hp⟩, fun D4 hD4 => ?_⟩
  refine lc_list (xs := us) (fun j H4 => Le H' H4 ∧ ∃ acc, H4 D4 = some (.lst acc) ∧ DpAll K H4 acc (((subsG ks).take j).map szK)) ⟨Le.new hD4, [], upd_same, .nil⟩ (fun j H4 _ ⟨l4, _⟩ => sql (l4.lst hp)) ?_ ?_
  · rintro j x H4 hx ⟨l4, acc, hacc, dacc⟩
    obtain ⟨d, hdj, hdx⟩ := dpAll_getV hus hx
    have hj : j < (subsG ks).length := by
      have := (List.getElem?_eq_some_iff.mp hx).1
      rw [dpAll_length hus, List.length_map] at this
      exact this
    have hs : (subsG ks)[j]? = some (subsG ks)[j] := List.getElem?_eq_getElem hj
    generalize (subsG ks)[j] = sj at hs
    rw [List.getElem?_map, hs] at hdj
    obtain rfl : subK sj = d := Option.some.inj hdj
    obtain ⟨b, rfl, hS⟩ := of_subK hdx
    have al := dpAll_length dacc
    rw [List.length_map, List.length_take, subsG_len] at al
    refine ⟨rfl, yes_go ⟨_, rfl, b, _, rfl, .inr (l4.sqt hS), _, rfl, (by decide : 2 ≤ sizeLine), fun p5 hp5 => ?_⟩⟩
    have l5 := Le.new (o := .tup [.int (((sj.map kV).length : Nat) : Int), .ref b]) hp5
    have d5 : Dp K (upd H4 p5 (.tup [.int (((sj.map kV).length : Nat) : Int), .ref b])) (.ref p5) (szK sj) := by
      refine .tup (sqt upd_same) (.cons ?_ (.cons (subK_of ((l4.trans l5).sqt hS)) .nil))
      rw [List.length_map]
      exact .int _
    refine ⟨acc, l5.lst hacc, szlt (by omega), (l4.trans l5).mut hD4, _, upd_same, ?_⟩
    rw [List.take_succ, hs, List.map_append]
    exact dpAll_append (dpAll_upd (l5.lst hacc) (tupO_map tupO_szK _) (l5.dpAll dacc)) (.cons (dp_upd (l5.lst hacc) (tupO_szK _) d5) .nil)
  rintro H4 ⟨l4, acc, hacc, dacc⟩
  have ul2 : us.length = (subsG ks).length := by rw [dpAll_length hus, List.length_map]
  rw [ul2, List.take_length] at dacc
  have hal : PySem.W.AllAlike ((subsG ks).map szK) := fun d hd d' hd' => by
    obtain ⟨x, hx, rfl⟩ := List.mem_map.mp hd
    obtain ⟨y, hy, rfl⟩ := List.mem_map.mp hd'
    have e := alike_subs hone (fun k hk => ((subsG_mem _ _).mp hx).subset hk) (fun k hk => ((subsG_mem _ _).mp hy).subset hk)
    simp [szK, subK, PySem.W.alike, PySem.W.alikeAll, e]
  have hsb : PySem.W.Sortable ((subsG ks).map szK) := PySem.W.Sortable.tuples fun b => ⟨_, _, rfl⟩
  have hdp : ∀ d ∈ (subsG ks).map szK, d.depth ≤ 60 := fun d hd => by
    obtain ⟨x, _, rfl⟩ := List.mem_map.mp hd
    simp [szK, subK, PyData.depth, PyData.depthAll, depth_keys]
  refine ⟨D4, _, _, rfl, .inl (sql hacc), dacc, hal, hsb, hdp, fun zs p6 hp6 dz pz => ?_⟩
  have es : ((subsG ks).map szK).mergeSort (D2.leD false) = (sortedSubs ks).map szK := (PySem.W.sort_maps (r := leK) (s := D2.leD false) szK fun a _ b _ => rfl).symm
  rw [es] at dz
  have l6 := Le.new (o := .lst zs) hp6
  have k6 : upd H4 p6 (.lst zs) p6 = some (.lst zs) := upd_same
  have dz6 := l6.dpAll dz
  have l46 := l4.trans l6
  generalize upd H4 p6 (.lst zs) = H6 at l6 k6 dz6 l46
  have sl : (sortedSubs ks).length = 2 ^ ks.length := by
    unfold sortedSubs
    rw [List.length_mergeSort, subsG_len]
  have zl := dpAll_length dz6
  rw [List.length_map] at zl
  refine ⟨p6, rfl, ⟨zs, sql k6⟩, fun D7 hD7 => ?_⟩
  refine lc_list (xs := zs) (fun j H7 => Le H6 H7 ∧ ∃ acc, H7 D7 = some (.lst acc) ∧ DpAll K H7 acc (((sortedSubs ks).take j).map subK)) ⟨Le.new hD7, [], upd_same, .nil⟩ (fun j H7 _ ⟨l7, _⟩ => sql (l7.lst k6)) ?_ ?_
  · rintro j x H7 hx ⟨l7, acc, hacc, dacc⟩
    obtain ⟨d, hdj, hdx⟩ := dpAll_getV dz6 hx
    have hj : j < (sortedSubs ks).length := by
      have := (List.getElem?_eq_some_iff.mp hx).1
      omega
    have hs : (sortedSubs ks)[j]? = some (sortedSubs ks)[j] := List.getElem?_eq_getElem hj
    generalize (sortedSubs ks)[j] = sj at hs
    rw [List.getElem?_map, hs] at hdj
    obtain rfl : szK sj = d := Option.some.inj hdj
    have al := dpAll_length dacc
    rw [List.length_map, List.length_take] at al
    unfold szK at hdx
    cases hdx with
    | tup hS r =>
      obtain ⟨u1, ur, rfl, g1, r⟩ := dpAll_cons r
      obtain ⟨u2, ur2, rfl, g2, r⟩ := dpAll_cons r
      cases r
      refine ⟨_, _, rfl, l7.sqt hS, rfl, _, _, rfl, _, _, rfl, rfl, rfl, yes_go ⟨_, rfl, acc, hacc, szlt (by omega), l7.mut hD7, _, upd_same, ?_⟩⟩
      rw [List.take_succ, hs, List.map_append]
      exact dpAll_append (dpAll_upd hacc (tupO_map tupO_subK _) dacc) (.cons (dp_upd hacc (tupO_subK _) (l7.dp g2)) .nil)
  · rintro H7 ⟨l7, acc, hacc, dacc⟩
    rw [zl, List.take_length] at dacc
    exact q D7 acc H7 (lA.trans (lC.trans (l46.trans l7))) (lA.dom _ (lC.dom _ (l46.dom _ hD7))) hacc dacc
end
end Wr

set_option Elab.async false
set_option linter.all false
set_option maxRecDepth 100000
set_option maxHeartbeats 2000000
namespace Wr
open PySem PySem.Spec PyProof.Rows L2
/-! ### all subsets of some names, the empty one left out; which witnesses can be reached: pure -/
theorem subsRG_head {α : Type} : ∀ r : List α, ∃ tl, subsRG r = [] :: tl ∧ ∀ s ∈ tl, s ≠ []
  | [] => ⟨[], rfl, fun _ h => by cases h⟩
  | x :: r => by
    obtain ⟨tl, e, h⟩ := subsRG_head r
    refine ⟨tl ++ (subsRG r).map (· ++ [x]), by rw [subsRG, e]; rfl, fun s hs => ?_⟩
    rcases List.mem_append.mp hs with z | z
    · exact h s z
    · obtain ⟨a, _, rfl⟩ := List.mem_map.mp z
      simp
def leT (a b : List Str) : Bool := leK (a.map Sum.inr) (b.map Sum.inr)
def sortedT (ns : List Str) : List (List Str) := (subsG ns).mergeSort leT
theorem sortedT_eq (ns : List Str) : sortedSubs (ns.map Sum.inr) = (sortedT ns).map (List.map Sum.inr) := by
  unfold sortedSubs sortedT
  rw [subsG_map]
  exact (PySem.W.sort_maps (r := leT) (s := leK) (List.map Sum.inr) fun a _ b _ => rfl).symm
theorem subK_inr (s : List Str) : subK (s.map Sum.inr) = subD s := by
  unfold subK subD
  rw [List.map_map]
  rfl
theorem leT_nil {x : List Str} (h : x ≠ []) : leT x [] = false := by
  have hl : 0 < x.length := List.length_pos_iff.mpr h
  unfold leT leK D2.leD PySem.W.dataLe PySem.W.sortLe
  simp only [cond_false, id]
  have e1 : PySem.W.keyToks (szK (([] : List Str).map Sum.inr)) = .inl 1 :: .inl 0 :: .inl 1 :: [.inl 0, .inl 0] := rfl
  have e2 : PySem.W.keyToks (szK (x.map Sum.inr)) = .inl 1 :: .inl (((x.map (Sum.inr : Str → L2.Key)).length : Nat) : Int) :: .inl 1 :: (PySem.W.keyToks (subK (x.map Sum.inr)) ++ [.inl 0]) := rfl
  rw [e1, e2]
  show (!PyProof.Rows.lexLt _ _ _) = false
  rw [PyProof.Rows.lex_cons, PyProof.Rows.lex_cons]
  simp [PyProof.Rows.itemLt, hl]
/-- all but the empty one -/
theorem sortedT_drop (ns : List Str) : ∀ s, s ∈ (sortedT ns).drop 1 ↔ s ≠ [] ∧ s.Sublist ns := by
  obtain ⟨tl, e, ht⟩ := subsRG_head ns.reverse
  have e : subsG ns = [] :: tl := e
  have pm : (sortedT ns).Perm ([] :: tl) := by
    rw [← e]
    exact List.mergeSort_perm _ _
  have pw : (sortedT ns).Pairwise (fun a b => leT a b = true) := PySem.W.sort_pairwise (show PySem.W.TotalLe leT from PySem.W.sortLe_total (listOrd itemOrd) false fun s : List Str => PySem.W.keyToks (szK (s.map Sum.inr))) _
  cases hs : sortedT ns with
  | nil =>
    rw [hs] at pm
    exact absurd pm.length_eq (by simp)
  | cons x r =>
    rw [hs] at pm pw
    obtain ⟨p1, _⟩ := List.pairwise_cons.mp pw
    have hx : x = [] := by
      by_cases c : x = []
      · exact c
      · have hm : ([] : List Str) ∈ x :: r := pm.mem_iff.mpr List.mem_cons_self
        rcases List.mem_cons.mp hm with z | z
        · exact absurd z.symm c
        · have := p1 [] z
          rw [leT_nil c] at this
          cases this
    subst hx
    have pr : r.Perm tl := pm.cons_inv
    intro s
    rw [List.drop_succ_cons, List.drop_zero, pr.mem_iff]
    constructor
    · intro h
      refine ⟨ht s h, (subsG_mem ns s).mp ?_⟩
      rw [e]
      exact List.mem_cons_of_mem _ h
    · rintro ⟨h1, h2⟩
      have := (subsG_mem ns s).mpr h2
      rw [e] at this
      rcases List.mem_cons.mp this with z | z
      · exact absurd z h1
      · exact z
/-- what can be reached after some lifts: only parts of what is left, and that itself -/
structure Reach (t : T) (ns : List Str) (S : Str → Bool) (R : List (List Str)) : Prop where
  ok : ∀ s ∈ R, s ≠ [] ∧ s.Sublist ns ∧ Sub (inL s) S
  best : Some1 S → ns.filter S ∈ R
theorem Reach.some {t : T} {ns : List Str} {S : Str → Bool} {R : List (List Str)} (h : Reach t ns S R) : R ≠ [] ↔ Some1 S := by
  constructor
  · intro c
    obtain ⟨s, hs⟩ := List.exists_mem_of_ne_nil R c
    obtain ⟨h1, _, h3⟩ := h.ok s hs
    obtain ⟨n, hn⟩ := List.exists_mem_of_ne_nil s h1
    exact ⟨n, h3 n (decide_eq_true hn)⟩
  · intro c z
    have := h.best c
    rw [z] at this
    cases this
theorem filter_ne {t : T} {ns : List Str} (pn : ∀ n, n ∈ ns ↔ n ∈ t.names) {S : Str → Bool} (ha : Sub S t.all) (h : Some1 S) : ns.filter S ≠ [] := fun e => by
  obtain ⟨n, hn⟩ := h
  have z : n ∈ ns.filter S := List.mem_filter.mpr ⟨(pn n).mpr (T.all_iff.mp (ha n hn)), hn⟩
  rw [e] at z
  cases z
theorem reach_zero {t : T} {ns : List Str} (pn : ∀ n, n ∈ ns ↔ n ∈ t.names) {E : List (List Str)} (hE : ∀ s, s ∈ E ↔ s ≠ [] ∧ s.Sublist ns) : Reach t ns t.all E :=
  ⟨fun s hs => ⟨((hE s).mp hs).1, ((hE s).mp hs).2, fun n hn => T.all_iff.mpr ((pn n).mp (((hE s).mp hs).2.subset (of_decide_eq_true hn)))⟩, fun h => (hE _).mpr ⟨filter_ne pn (Sub.refl _) h, List.filter_sublist⟩⟩
theorem reach_step {t : T} (nd : t.names.Nodup) {ns : List Str} (pn : ∀ n, n ∈ ns ↔ n ∈ t.names) {E R R2 : List (List Str)} (hE : ∀ s, s ∈ E ↔ s ≠ [] ∧ s.Sublist ns) {S : Str → Bool} (ha : Sub S t.all) {pw : Str → Int} {L : Int} (h1 : 1 ≤ L) (h : Reach t ns S R)
    (h2 : ∀ s, s ∈ R2 ↔ s ∈ E ∧ Holds t pw L (inL s) ∧ ∃ o ∈ R, ∀ x ∈ s, x ∈ o) : Reach t ns (t.best pw L S) R2 := by
  refine ⟨fun s hs => ?_, fun c => ?_⟩
  · obtain ⟨e, hh, o, ho, hso⟩ := (h2 s).mp hs
    obtain ⟨e1, e2⟩ := (hE s).mp e
    refine ⟨e1, e2, best_most (fun n hn => T.all_iff.mpr ((pn n).mp (e2.subset (of_decide_eq_true hn)))) (fun n hn => ?_) hh⟩
    exact (h.ok o ho).2.2 n (decide_eq_true (hso n (of_decide_eq_true hn)))
  · have c0 : Some1 S := c.mono best_sub
    refine (h2 _).mpr ⟨(hE _).mpr ⟨filter_ne pn best_all c, List.filter_sublist⟩, ?_, _, h.best c0, fun x hx => ?_⟩
    · refine (best_holds (N := S) nd h1).congr fun n hn => ?_
      cases e : t.best pw L S n with
      | true => exact (decide_eq_true (List.mem_filter.mpr ⟨(pn n).mpr hn, e⟩)).symm
      | false => exact (decide_eq_false fun z => by rw [(List.mem_filter.mp z).2] at e; cases e).symm
    · obtain ⟨x1, x2⟩ := List.mem_filter.mp hx
      exact List.mem_filter.mpr ⟨x1, best_sub x x2⟩
end Wr

set_option Elab.async false
set_option linter.all false
set_option maxRecDepth 100000
set_option maxHeartbeats 2000000
namespace Wr
open PySem PySem.Spec PyProof.Rows L2
/-! ### _law_repeats of best trees -/
section
variable {P : Program} {w : World} {K : PySem.W.Frag} {mg : Str → Option Value} {base : Heap}
/-- the repeat count, 120 for no limit -/
def RqAt (t : T) (L : Int) (m : Nat) : Prop := m ≤ 120 ∧ (RepN t L → m = 120) ∧ ∀ c, RepS t L c → m = c
def spLRq (K : PySem.W.Frag) : Sp := fun vs H Q _ => ∃ (v : V) (t : T) (L : Int), vs = [v, .int L] ∧ RigAt K H v t ∧ (∀ l ∈ t.leaves, l.2.1 ≤ 99) ∧ 1 ≤ L ∧ L ≤ 1000 ∧ ∀ (m : Nat) (H' : Hp), Le H H' → RqAt t L m → Q (.int (m : Nat)) H'
theorem ok_lrq (G : Gx K mg) (k : Nat) : FnOk P w K mg base CX0 (k + 10) G.f__law_repeats G.fd__law_repeats ["rig", "load"] (spLRq K) := by
  have G__law_strands := (ok_lstr (P := P) (w := w) (base := base) G k 6).mono (show 6 + k + 1 ≤ k + 9 by omega)
  have G__law_subsets := (ok_subs (P := P) (w := w) (base := base) G (k + 8))
  have G__law_supports := ok_lsupp (P := P) (w := w) (base := base) G k
  refine G.F__law_repeats.ok sc__law_repeats (fun vs H Q E h => ?_) (fun cdv A outer s H vs Q E hr h => ?_)
  · obtain ⟨v, t, L, rfl, _⟩ := h
    rfl
  obtain ⟨v, t, L, rfl, hR, hp99, hL, hL2, q⟩ := h
  have hr : Room (k + 9) _ := hr
  have h6 := hR.len
  have hw : LeafW t := hR.lb.w
  refine ⟨_, (pss_cons (ps_set (i := 2) sc__law_repeats.nd rfl (.inl rfl) pe_int)
    (pss_cons (ps_for PassesOwn.never rfl (pi_list (pe_slice sl_list (pe_call G__law_subsets hr (by rfl) G.m__law_subsets G.F__law_subsets.kp G.b__law_subsets .nil pass0 (pa_cons (pe_callB cr_sortedS (by rfl) G.sorted (by decide +kernel) (pa_cons (pe_lc (own := [("strand", 5)]) (g := gName 5) (tt := tYes) (by rfl) sc__law_repeats.nd (pi_list (pe_call G__law_strands hr (by rfl) G.m__law_strands G.F__law_strands.kp G.b__law_strands .nil pass0 (pa_cons (pv 0) pa_nil))) (blkOk_by (own := [("strand", 5)]) (N := N__law_repeats) (sc := defScope s__law_repeats) (by decide +kernel)) (fun _ _ _ _ _ => (pg_name (i := 5) sc__law_repeats.nd rfl (.inl rfl) (.inr rfl))) (fun _ _ _ _ _ => pts_nil) (fun _ _ _ _ _ => (pe_ix (r := rIxT K) ix_tup (pv 5) pe_int (fun _ _ => rfl)))) pa_nil)) pa_nil)) (po_some pe_int) po_none)) (pg_name (i := 3) sc__law_repeats.nd rfl (.inl rfl))
      (pss_cons (ps_set (i := 4) sc__law_repeats.nd rfl (.inl rfl) pe_int)
    (pss_cons (ps_while PassesOwn.never (PW.pt (pw_and (pt_cmpR op_lt (pv 4) pe_int (nomark _)) (pw_and1 (pt_val (pe_call G__law_supports hr (by rfl) G.m__law_supports G.F__law_supports.kp G.b__law_supports .nil pass0 (pa_cons (pv 0) (pa_cons (pv 3) (pa_cons (pv 1) (pa_cons (pv 4) pa_nil))))))))) (pss_one (ps_set (i := 4) sc__law_repeats.nd rfl (.inl rfl) (pe_op op_add (pv 4) pe_int))))
    (pss_one (ps_set (i := 2) sc__law_repeats.nd rfl (.inl rfl) (pe_callB (call_max2 rfl) (by rfl) G.max (by decide +kernel) (pa_cons (pv 2) (pa_cons (pv 4) pa_nil))))))))
    (pss_one (ps_ret (pv 2))))), ?_⟩
  -- names
  refine ⟨_, rfl, v, t, H, rfl, Le.refl _, hR.dp, hR.ok, hR.len, by omega, fun p1 us1 H4 l4 hp1 hu1 d1 => ?_⟩
  refine ⟨p1, rfl, ⟨us1, sql hu1⟩, fun D hD => ?_⟩
  have len1 : us1.length = t.leaves.length := by rw [dpAll_length d1, List.length_map]
  have nl : t.names.length = t.leaves.length := List.length_map _
  refine lc_list (xs := us1) (fun i Hm => Le H4 Hm ∧ Hm D = some (.lst ((t.names.take i).map V.str))) ⟨Le.new hD, upd_same⟩ (fun i Hm _ ⟨lm, _⟩ => sql (lm.lst hu1)) ?_ ?_
  · rintro i x Hm hx ⟨lm, hacc⟩
    obtain ⟨d, hdi, hdx⟩ := dpAll_getV d1 hx
    have hi : i < t.leaves.length := by
      have := (List.getElem?_eq_some_iff.mp hx).1
      omega
    have hc : t.leaves[i]? = some t.leaves[i] := List.getElem?_eq_getElem hi
    generalize t.leaves[i] = lf at hc
    rw [List.getElem?_map, hc] at hdi
    obtain rfl : leafD lf = d := Option.some.inj hdi
    obtain ⟨a, rfl, hS⟩ := dp_leaf hdx
    have en : t.names[i]? = some lf.1 := by
      unfold T.names
      rw [List.getElem?_map, hc]
      rfl
    refine ⟨rfl, yes_go ⟨_, rfl, a, _, _, _, rfl, rfl, (l4.trans lm).sqt hS, atI_nat (j := 0) rfl, _, hacc, szlt (by rw [List.length_map, List.length_take]; omega), lm.mut hD, ?_⟩⟩
    rw [upd_same, List.take_succ, en, List.map_append]
    rfl
  rintro H5 ⟨l5, hDn⟩
  rw [len1, ← nl, List.take_length] at hDn
  refine ⟨D, t.names, rfl, sql hDn, by omega, fun ns p3 pn sn hp3 => ?_⟩
  have l6 := Le.new (o := .lst (ns.map V.str)) hp3
  have kn : upd H5 p3 (.lst (ns.map V.str)) p3 = some (.lst (ns.map V.str)) := upd_same
  have l36 := l4.trans (l5.trans l6)
  generalize upd H5 p3 (.lst (ns.map V.str)) = H6 at l6 kn l36
  have k3 : SqL K H6 p3 ((ns.map (Sum.inr : Str → L2.Key)).map kV) := by
    rw [List.map_map]
    exact sql kn
  have pnm : ∀ n, n ∈ ns ↔ n ∈ t.names := fun n => pn.mem_iff
  refine ⟨p3, ns.map Sum.inr, rfl, k3, by rw [List.length_map, pn.length_eq]; omega, .inr fun k hk => (let ⟨x, _, e⟩ := List.mem_map.mp hk; ⟨x, e.symm⟩), fun p4 us4 H7 l7 hp4 h4 d4 => ?_⟩
  rw [sortedT_eq, List.map_map] at d4
  rw [show (subK ∘ List.map (Sum.inr : Str → L2.Key)) = subD from funext subK_inr] at d4
  refine ⟨1, rfl, ?_⟩
  dsimp only [tNoPart]
  refine ⟨p4, _, rfl, sql h4, fun p5 hp5 => ?_⟩
  rw [show (1 : Int) = ((1 : Nat) : Int) from rfl, cut_drop]
  have d5 := dpAll_drop 1 d4
  rw [← List.map_drop] at d5
  have hE := sortedT_drop ns
  generalize (sortedT ns).drop 1 = EE at d5 hE
  generalize us4.drop 1 = us5 at d5
  have l8 := Le.new (o := .lst us5) hp5
  have k5 : upd H7 p5 (.lst us5) p5 = some (.lst us5) := upd_same
  have d5 := l8.dpAll d5
  have l38 := l36.trans (l7.trans l8)
  generalize upd H7 p5 (.lst us5) = H8 at l8 k5 l38 d5
  have ul5 := dpAll_length d5
  rw [List.length_map] at ul5
  have someall := some_all hR.ok
  have hEm : ∀ S, Sub S t.all → Some1 S → S ∈ EE.map inL := fun S sa ss => by
    have fne := filter_ne pnm sa ss
    refine List.mem_map.mpr ⟨ns.filter S, (hE _).mpr ⟨fne, List.filter_sublist⟩, Sub.eq (fun n h => ?_) (fun n h => ?_)⟩
    · exact (List.mem_filter.mp (of_decide_eq_true h)).2
    · exact decide_eq_true (List.mem_filter.mpr ⟨(pnm n).mpr (T.all_iff.mp (sa n h)), h⟩)
  have hEs : ∀ S ∈ EE.map inL, Sub S t.all ∧ Some1 S := fun S hS => by
    obtain ⟨e, he, rfl⟩ := List.mem_map.mp hS
    obtain ⟨e1, e2⟩ := (hE e).mp he
    refine ⟨fun n h => T.all_iff.mpr ((pnm n).mp (e2.subset (of_decide_eq_true h))), ?_⟩
    obtain ⟨n, hn⟩ := List.exists_mem_of_ne_nil e e1
    exact ⟨n, decide_eq_true hn⟩
  have ene : EE ≠ [] := by
    obtain ⟨e, he, _⟩ := List.mem_map.mp (hEm t.all (Sub.refl _) someall)
    exact List.ne_nil_of_mem he
  refine ⟨p5, rfl, ⟨us5, sql k5⟩, ?_⟩
  refine for_list (D := { nx := _, rt := _, bk := fun _ _ => True, ct := fun _ _ => True }) (xs := us5) (fun i σ2 Hi => ∃ (b : Nat) (z3 z4 z5 : Option V), σ2 = [some v, some (.int L), some (.int (b : Nat)), z3, z4, z5] ∧ Le H8 Hi ∧ ((i = 0 ∧ b = 0) ∨ ∃ e ∈ EE.take i, SupK t L (inL e) b) ∧ ∀ e ∈ EE.take i, ∃ c, SupK t L (inL e) c ∧ c ≤ b) ⟨0, _, _, _, rfl, Le.refl _, .inl ⟨rfl, rfl⟩, fun e he => by rw [List.take_zero] at he; cases he⟩ (fun i σ2 Hi _ ⟨_, _, _, _, _, li, _⟩ => sql (li.lst k5)) ?_ ?_
  · rintro i x σ2 Hi hx ⟨b, z3, z4, z5, rfl, li, inv1, inv2⟩
    obtain ⟨d, hdi, hdx⟩ := dpAll_getV (li.dpAll d5) hx
    rw [List.getElem?_map] at hdi
    cases hj : EE[i]? with
    | none => rw [hj] at hdi; cases hdi
    | some e =>
      rw [hj] at hdi
      obtain rfl : subD e = d := Option.some.inj hdi
      obtain ⟨ba, rfl, hb⟩ := of_subD hdx
      have tk : EE.take (i + 1) = EE.take i ++ [e] := by rw [List.take_succ, hj]; rfl
      refine ⟨fun m σ H4 => ∃ (c : Nat), σ = [some v, some (.int L), some (.int (b : Nat)), some (.ref ba), some (.int (c : Nat)), z5] ∧ m = 120 - c ∧ c ≤ 120 ∧ Le Hi H4 ∧ ∀ i, i < c → Holds t (t.pw (i : Nat)) L (inL e), ⟨_, 0, rfl, rfl, by decide, Le.refl _, fun i hi => absurd hi (Nat.not_lt_zero _)⟩, ?_⟩
      rintro m σ H4 ⟨c, rfl, rfl, hc, l4, hall⟩
      have fin : ∀ H', Le Hi H' → SupK t L (inL e) c → ∃ (b' : Nat) (z3 z4 z5' : Option V), [some v, some (.int L), some (V.int (if ((c : Nat) : Int) > ((b : Nat) : Int) then ((c : Nat) : Int) else ((b : Nat) : Int))), some (.ref ba), some (.int (c : Nat)), z5] = [some v, some (.int L), some (.int (b' : Nat)), z3, z4, z5'] ∧ Le H8 H' ∧ ((i + 1 = 0 ∧ b' = 0) ∨ ∃ e ∈ EE.take (i + 1), SupK t L (inL e) b') ∧ ∀ e ∈ EE.take (i + 1), ∃ c, SupK t L (inL e) c ∧ c ≤ b' := fun H' l sk => by
        have em : e ∈ EE.take (i + 1) := by rw [tk]; exact List.mem_append_right _ (List.mem_singleton.mpr rfl)
        by_cases cc : ((c : Nat) : Int) > ((b : Nat) : Int)
        · rw [if_pos cc]
          refine ⟨c, _, _, _, rfl, li.trans l, .inr ⟨e, em, sk⟩, fun e2 he2 => ?_⟩
          rw [tk] at he2
          rcases List.mem_append.mp he2 with z | z
          · obtain ⟨c2, h1, h2⟩ := inv2 e2 z
            exact ⟨c2, h1, by omega⟩
          · rw [List.mem_singleton.mp z]
            exact ⟨c, sk, Nat.le_refl _⟩
        · rw [if_neg cc]
          refine ⟨b, _, _, _, rfl, li.trans l, .inr ?_, fun e2 he2 => ?_⟩
          · rcases inv1 with ⟨_, b0⟩ | ⟨e2, h1, h2⟩
            · have : c = b := by omega
              exact ⟨e, em, this ▸ sk⟩
            · exact ⟨e2, by rw [tk]; exact List.mem_append_left _ h1, h2⟩
          · rw [tk] at he2
            rcases List.mem_append.mp he2 with z | z
            · exact inv2 e2 z
            · rw [List.mem_singleton.mp z]
              exact ⟨c, sk, by omega⟩
      refine ⟨_, rfl, _, _, rfl, rfl, _, rfl, ?_⟩
      by_cases c1 : ((c : Nat) : Int) < 120
      · rw [decide_eq_true c1]
        refine iteT ⟨_, rfl, _, rfl, _, rfl, _, rfl, v, t, ba, e, L, (c : Nat), rfl, (hR.le l38).le (li.trans l4), l4.sqt hb, by omega, by omega, by omega, by omega, fun r H5 l5 hrr => ⟨_, rfl, ?_⟩⟩
        cases r with
        | false =>
          refine iteF ⟨_, rfl, _, rfl, _, _, rfl, fin H5 (l4.trans l5) ⟨hc, hall, fun _ z => ?_⟩⟩
          have := hrr.mpr z
          cases this
        | true =>
          refine iteT ⟨_, fun σ' H' z => z, ?_⟩
          refine ⟨_, rfl, _, _, rfl, rfl, 120 - (c + 1), by omega, c + 1, rfl, rfl, by omega, l4.trans l5, fun i hi => ?_⟩
          rcases Nat.lt_or_ge i c with z | z
          · exact hall i z
          · have e : i = c := by omega
            rw [e]
            exact hrr.mp rfl
      · rw [decide_eq_false c1]
        refine iteF (iteF ⟨_, rfl, _, rfl, _, _, rfl, fin H4 l4 ⟨hc, hall, fun z => absurd z (by omega)⟩⟩)
  · rintro σ2 Hi ⟨b, z3, z4, z5, rfl, li, inv1, inv2⟩
    rw [ul5, List.take_length] at inv1 inv2
    refine ⟨_, rfl, q b Hi (l38.trans li) ?_⟩
    have hV : ∀ (S : Str → Bool) (c : Nat), SupK t L S c → SupK t L S c := fun _ _ h => h
    have hm : ∃ S ∈ EE.map inL, SupK t L S b := by
      rcases inv1 with ⟨z, _⟩ | ⟨e, he, sk⟩
      · exact absurd (List.length_eq_zero_iff.mp z) ene
      · exact ⟨inL e, List.mem_map.mpr ⟨e, he, rfl⟩, sk⟩
    have hmax : ∀ S ∈ EE.map inL, ∃ c, SupK t L S c ∧ c ≤ b := fun S hS => by
      obtain ⟨e, he, rfl⟩ := List.mem_map.mp hS
      exact inv2 e he
    refine ⟨(let ⟨_, _, sk⟩ := hm; sk.1), fun rn => ?_, fun c rs => most_fin hR.nd hw hp99 hL hV hEm hEs hm hmax rs⟩
    refine Classical.byContradiction fun ne => ?_
    obtain ⟨S, hS, sk⟩ := hm
    obtain ⟨a1, a2, a3⟩ := sk
    have b120 : b < 120 := by omega
    -- what always works lifts once more
    obtain ⟨k2, v2, km⟩ := hmax (lf t L (b + 1)) (hEm _ (left_all _) (rn (b + 1)))
    obtain ⟨k1', k2', k3'⟩ := v2
    have hh := left_holds (t := t) hR.nd hL b
    exact k3' (by omega) (holds_less hR.nd hw hL (show k2 ≤ b by omega) hh)
end
end Wr

set_option Elab.async false
set_option linter.all false
set_option maxRecDepth 100000
set_option maxHeartbeats 2000000
namespace Wr
open PySem PySem.Spec PyProof.Rows L2
/-! ### trees that differ in the order of children alone lift alike -/
/-- the same strands, the same divisors -/
def DivE (t u : T) : Prop := t.leaves.Perm u.leaves ∧ ∀ (S : Str → Bool) (x : Str × Int), x ∈ t.div S ↔ x ∈ u.div S
theorem DivE.refl (t : T) : DivE t t := ⟨.refl _, fun _ _ => Iff.rfl⟩
theorem DivE.symm {t u : T} (h : DivE t u) : DivE u t := ⟨h.1.symm, fun S x => (h.2 S x).symm⟩
theorem DivE.trans {t u v : T} (h : DivE t u) (g : DivE u v) : DivE t v := ⟨h.1.trans g.1, fun S x => (h.2 S x).trans (g.2 S x)⟩
theorem DivE.empty {t u : T} (h : DivE t u) (S : Str → Bool) : (t.div S).isEmpty = (u.div S).isEmpty := by
  rw [Bool.eq_iff_iff, List.isEmpty_iff, List.isEmpty_iff, List.eq_nil_iff_forall_not_mem, List.eq_nil_iff_forall_not_mem]
  exact forall_congr' fun x => not_congr (h.2 S x)
theorem node_div (ts : List T) (S : Str → Bool) (x : Str × Int) : x ∈ (T.node ts).div S ↔ ∃ t ∈ ts, ∃ y ∈ t.div S, x = (y.1, y.2 * ((ts.countP fun t => !(t.div S).isEmpty : Nat) : Int)) := by
  show x ∈ share (T.divL S ts) ↔ _
  rw [share_mem, hold_len]
  constructor
  · rintro ⟨p, hp, y, hy, e⟩
    rw [T.divL_map] at hp
    obtain ⟨t, ht, rfl⟩ := List.mem_map.mp hp
    exact ⟨t, ht, y, hy, e⟩
  · rintro ⟨t, ht, y, hy, e⟩
    exact ⟨t.div S, by rw [T.divL_map]; exact List.mem_map.mpr ⟨t, ht, rfl⟩, y, hy, e⟩
theorem paired_leaves : ∀ {ts us : List T}, Paired DivE ts us → (T.leavesL ts).Perm (T.leavesL us)
  | _, _, .nil => .refl _
  | _, _, .cons h r => by
    rw [T.leavesL, T.leavesL]
    exact h.1.append (paired_leaves r)
theorem paired_count (S : Str → Bool) : ∀ {ts us : List T}, Paired DivE ts us → (ts.countP fun t => !(t.div S).isEmpty) = us.countP fun t => !(t.div S).isEmpty
  | _, _, .nil => rfl
  | _, _, .cons h r => by
    rw [List.countP_cons, List.countP_cons, paired_count S r, h.empty S]
theorem paired_mem {α β : Type} {R : α → β → Prop} : ∀ {as : List α} {bs : List β}, Paired R as bs → (∀ a ∈ as, ∃ b ∈ bs, R a b) ∧ ∀ b ∈ bs, ∃ a ∈ as, R a b
  | _, _, .nil => ⟨fun _ h => (by cases h), fun _ h => (by cases h)⟩
  | _, _, .cons h r => by
    obtain ⟨h1, h2⟩ := paired_mem r
    refine ⟨fun a ha => ?_, fun b hb => ?_⟩
    · rcases List.mem_cons.mp ha with z | z
      · rw [z]; exact ⟨_, List.mem_cons_self, h⟩
      · obtain ⟨b, hb, g⟩ := h1 a z
        exact ⟨b, List.mem_cons_of_mem _ hb, g⟩
    · rcases List.mem_cons.mp hb with z | z
      · rw [z]; exact ⟨_, List.mem_cons_self, h⟩
      · obtain ⟨a, ha, g⟩ := h2 b z
        exact ⟨a, List.mem_cons_of_mem _ ha, g⟩
theorem node_cong {ts us vs : List T} (h : Paired DivE ts us) (p : us.Perm vs) : DivE (.node ts) (.node vs) := by
  refine ⟨?_, fun S x => ?_⟩
  · show (T.leavesL ts).Perm (T.leavesL vs)
    refine (paired_leaves h).trans ?_
    rw [T.leavesL_flat, T.leavesL_flat]
    exact p.flatMap_right _
  · rw [node_div, node_div, paired_count S h, p.countP_eq]
    obtain ⟨h1, h2⟩ := paired_mem h
    constructor
    · rintro ⟨t, ht, y, hy, e⟩
      obtain ⟨u, hu, g⟩ := h1 t ht
      exact ⟨u, p.mem_iff.mp hu, y, (g.2 S y).mp hy, e⟩
    · rintro ⟨u, hu, y, hy, e⟩
      obtain ⟨t, ht, g⟩ := h2 u (p.mem_iff.mpr hu)
      exact ⟨t, ht, y, (g.2 S y).mpr hy, e⟩
mutual
theorem nrm_div (f : Nat → Str × Int × Int) : ∀ s : Sk, DivE (s.toT f) (s.nrm.toT f)
  | .lf i => by rw [Sk.nrm]; exact DivE.refl _
  | .nd ts => by
    rw [Sk.nrm, Sk.toT, Sk.toT, Sk.toTL_map, Sk.toTL_map]
    have h := nrmL_div f ts
    rw [Sk.toTL_map, Sk.toTL_map] at h
    exact node_cong h ((sortK_perm _).symm.map _)
theorem nrmL_div (f : Nat → Str × Int × Int) : ∀ ts : List Sk, Paired DivE (Sk.toTL f ts) (Sk.toTL f (Sk.nrmL ts))
  | [] => by rw [Sk.nrmL]; exact .nil
  | t :: r => by
    rw [Sk.nrmL, Sk.toTL, Sk.toTL]
    exact .cons (nrm_div f t) (nrmL_div f r)
end
theorem same_div (f : Nat → Str × Int × Int) {a b : Sk} (h : a.nrm = b.nrm) : DivE (a.toT f) (b.toT f) := (nrm_div f a).trans (by rw [h]; exact (nrm_div f b).symm)
theorem div_sim {t u : T} (nd : t.names.Nodup) (h : DivE t u) : Sim id 1 t u where
  pos := Int.le_refl 1
  inj := fun _ _ _ _ e => e
  nm := by
    rw [List.map_id]
    exact (h.1.map _).symm
  dv := fun S n d _ => (h.2 S (n, d)).symm
  pw := fun j n hn => by
    obtain ⟨l, hl, rfl⟩ := List.mem_map.mp hn
    have pn : u.names.Perm t.names := (h.1.map _).symm
    rw [Int.one_mul]
    exact (pw_at (pn.nodup_iff.mpr nd) (h.1.mem_iff.mp hl) j).trans (pw_at nd hl j).symm
theorem sim_rc1 {t u : T} (s : Sim id 1 t u) {L : Int} {x : V} : RcAt u L x ↔ RcAt t L x := by
  have a := s.repN (L := L)
  have b := fun c => s.repS (L := L) (c := c)
  rw [Int.one_mul] at a
  unfold RcAt
  rw [a]
  constructor
  · rintro (z | ⟨c, e, z⟩)
    · exact .inl z
    · have := b c
      rw [Int.one_mul] at this
      exact .inr ⟨c, e, this.mp z⟩
  · rintro (z | ⟨c, e, z⟩)
    · exact .inl z
    · have := b c
      rw [Int.one_mul] at this
      exact .inr ⟨c, e, this.mpr z⟩
end Wr

set_option Elab.async false
set_option linter.all false
set_option maxRecDepth 100000
set_option maxHeartbeats 2000000
namespace Wr
open PySem PySem.Spec PyProof.Rows L2
/-! ### best_tree -/
theorem withs_ne (t s : T) : ∃ g, g ∈ t.withs s := by
  cases t with
  | leaf n p w => exact ⟨_, by rw [T.withs]; exact List.mem_cons_self⟩
  | node ts => exact ⟨_, by rw [T.withs]; exact List.mem_cons_self⟩
theorem stgT_ne (l : T) : ∀ (k : Nat) (r : List T), r.length = k → ∃ t, t ∈ stgT l r
  | 0, r, h => by
    rw [List.length_eq_zero_iff.mp h]
    exact ⟨l, List.mem_singleton.mpr rfl⟩
  | k + 1, r, h => by
    rcases List.eq_nil_or_concat r with e | ⟨q, s, e⟩
    · rw [e] at h; cases h
    rw [e, List.concat_eq_append] at h ⊢
    obtain ⟨t, ht⟩ := stgT_ne l k q (by rw [List.length_append] at h; exact Nat.succ.inj h)
    obtain ⟨g, hg⟩ := withs_ne t s
    exact ⟨g, by rw [stgT_snoc]; exact List.mem_flatMap.mpr ⟨t, ht, hg⟩⟩
/-- strands of which every tree is a rig -/
structure LsOk (ls : List (Str × Int × Int)) : Prop where
  len : ls.length ≤ 4
  nd : (ls.map (·.1)).Nodup
  lb : ∀ t : T, t.leaves.Perm ls → LeafB t
  sok : ∀ x ∈ ls, PyData.strOk x.1 = true
theorem LsOk.rig {K : PySem.W.Frag} {H : Hp} {ls : List (Str × Int × Int)} (h : LsOk ls) {t : T} {v : V} (ho : t.Ok) (p : t.leaves.Perm ls) (d : Dp K H v t.data) : RigAt K H v t := by
  have pl := p.length_eq
  have hl := h.len
  refine ⟨d, ho, by omega, ?_, h.lb t p, fun n hn => ?_⟩
  · unfold T.names
    exact (p.map (·.1)).nodup_iff.mpr h.nd
  · obtain ⟨x, hx, rfl⟩ := List.mem_map.mp hn
    exact h.sok x (p.mem_iff.mp hx)
/-- the largest repeat count among these trees -/
def BtR (S : List T) (L : Int) (x : V) : Prop := (x = .non ∧ ∃ t ∈ S, RepN t L) ∨ ∃ c : Nat, x = .int (c : Nat) ∧ (∃ t ∈ S, RepS t L c) ∧ ∀ t ∈ S, ∃ d : Nat, d ≤ c ∧ RepS t L d
section
variable {P : Program} {w : World} {K : PySem.W.Frag} {mg : Str → Option Value} {base : Heap}
def spBt (K : PySem.W.Frag) (B : Addr) : Sp := fun vs H Q _ => ∃ (a : Addr) (us : List V) (l : Str × Int × Int) (r : List (Str × Int × Int)) (L : Int), vs = [.ref a, .int L] ∧ SqT K H a us ∧ DpAll K H us ((l :: r).map leafD) ∧ LsOk (l :: r) ∧ 1 ≤ L ∧ GxR.TabG H B ∧
  ∀ (p : Addr) (x y : V) (H' : Hp), Le H H' → SqT K H' p [x, y] → BtR (stgT (leafT l) (r.map leafT)) L x → (∃ t ∈ stgT (leafT l) (r.map leafT), Dp K H' y t.data ∧ RcAt t L x) → Q (.ref p) H'
theorem ok_bt (G : Gx K mg) (TN : GxR.TabB base mg G.c_strand_names G.p_strand_names) (k : Nat) : FnOk P w K mg base CX0 (k + 17) G.f_best_tree G.fd_best_tree ["strands", "load"] (spBt K G.p_strand_names) := by
  have G_all_trees := ok_at (P := P) (w := w) (base := base) G (k + 8)
  have G_repeat_count := ok_rc2 (P := P) (w := w) (base := base) G TN k
  refine G.F_best_tree.ok sc_best_tree (fun vs H Q E h => ?_) (fun cdv A outer s0 H vs Q E hr h => ?_)
  · obtain ⟨a, us, l, r, L, rfl, _⟩ := h
    rfl
  obtain ⟨a, us, l, r, L, rfl, ha, hAll, hok, hL, hT, q⟩ := h
  have hr : Room (k + 16) _ := hr
  have hl4 := hok.len
  rw [List.length_cons] at hl4
  refine ⟨_, (pss_cons (ps_asg (pe_tup (pa_cons pe_int (pa_cons pe_non pa_nil))) (pg_tup rfl (pgs_cons (pg_name (i := 2) sc_best_tree.nd rfl (.inl rfl)) (pgs_cons (pg_name (i := 3) sc_best_tree.nd rfl (.inl rfl)) pgs_nil))))
    (pss_cons (ps_for PassesOwn.never rfl (pi_list (pe_call G_all_trees hr (by rfl) G.m_all_trees G.F_all_trees.kp G.b_all_trees .nil pass0 (pa_cons (pv 0) pa_nil))) (pg_name (i := 4) sc_best_tree.nd rfl (.inl rfl))
      (pss_cons (ps_set (i := 5) sc_best_tree.nd rfl (.inl rfl) (pe_call G_repeat_count hr (by rfl) G.m_repeat_count G.F_repeat_count.kp G.b_repeat_count .nil pass0 (pa_cons (pv 4) (pa_cons (pv 1) pa_nil))))
    (pss_cons (ps_if (pt_cmpR op_isN (pv 5) pe_non (nomark _)) (pss_one (ps_ret (pe_tup (pa_cons pe_non (pa_cons (pv 4) pa_nil))))) pss_nil)
    (pss_one (ps_if (PW.pt (pw_or (pt_cmpR op_isN (pv 3) pe_non (nomark _)) (pw_or1 (pt_cmpR op_gt (pv 5) (pv 2) (nomark _))))) (pss_one (ps_par (i := 2) (j := 3) (by rfl) sc_best_tree.nd rfl rfl (by decide) rfl rfl (pa_cons (pv 5) (pa_cons (pv 4) pa_nil)) (by rfl))) pss_nil)))))
    (pss_one (ps_ret (pe_tup (pa_cons (pv 2) (pa_cons (pv 3) pa_nil))))))), ?_⟩
  refine ⟨(by decide : 2 ≤ sizeLine), fun pe2 hpe2 => ⟨pe2, _, rfl, sqt upd_same, rfl, _, _, rfl, _, _, rfl, rfl, ?_⟩⟩
  have l0 := Le.new (o := .tup [.int 0, .non]) hpe2
  generalize upd H pe2 (.tup [.int 0, .non]) = H0 at l0
  refine ⟨_, rfl, a, us, l, r, rfl, l0.sqt ha, l0.dpAll hAll, by omega, fun p ts H1 l1 hp h1 d1 => ⟨p, rfl, ⟨ts, sql h1⟩, ?_⟩⟩
  replace l1 := l0.trans l1
  have all := stgT_all l r.length r rfl
  have tsl := dpAll_length d1
  rw [List.length_map] at tsl
  have spos : 0 < (stgT (leafT l) (r.map leafT)).length := by
    obtain ⟨t, ht⟩ := stgT_ne (leafT l) r.length (r.map leafT) (List.length_map _)
    exact List.length_pos_of_mem ht
  generalize stgT (leafT l) (r.map leafT) = S at d1 all tsl q spos
  refine for_list (xs := ts) (fun i σ2 H2 => ∃ (x y : V) (z4 z5 : Option V), σ2 = [some (.ref a), some (.int L), some x, some y, z4, z5] ∧ Le H1 H2 ∧ ((i = 0 ∧ x = .int 0 ∧ y = .non) ∨ ∃ (c : Nat) (b : Addr), y = .ref b ∧ x = .int (c : Nat) ∧ (∃ t ∈ S, Dp K H1 y t.data ∧ RepS t L c) ∧ ∀ t ∈ S.take i, ∃ d : Nat, d ≤ c ∧ RepS t L d)) ⟨_, _, _, _, rfl, Le.refl _, .inl ⟨rfl, rfl, rfl⟩⟩ (fun i σ2 H2 _ ⟨_, _, _, _, _, l2, _⟩ => sql (l2.lst h1)) ?_ ?_
  · rintro i x0 σ2 H2 hx ⟨x, y, z4, z5, rfl, l2, inv⟩
    have l12 := l1.trans l2
    obtain ⟨d, hdi, hdx⟩ := dpAll_getV d1 hx
    rw [List.getElem?_map] at hdi
    cases hS : S[i]? with
    | none => rw [hS] at hdi; cases hdi
    | some t =>
      rw [hS] at hdi
      obtain rfl : t.data = d := Option.some.inj hdi
      have tm := List.mem_of_getElem? hS
      obtain ⟨o, pm⟩ := all t tm
      obtain ⟨b0, us0, rfl, _, _⟩ := t_items hdx
      have tk : S.take (i + 1) = S.take i ++ [t] := by rw [List.take_succ, hS]; rfl
      refine ⟨_, rfl, _, rfl, _, t, L, rfl, hok.rig o pm (l2.dp hdx), hL, l12.tab _ hT, fun x2 H3 l3 rx fx => ?_⟩
      have l23 := l2.trans l3
      have l13 := l1.trans l23
      refine ⟨_, rfl, rfl, _, rfl, ?_⟩
      rcases rx with ⟨e, rn⟩ | ⟨c, e, rs⟩
      · subst e
        refine iteT ⟨_, rfl, (by decide : 2 ≤ sizeLine), fun pr hpr => ?_⟩
        exact q pr .non (.ref b0) _ (l13.trans (Le.new hpr)) (sqt upd_same) (.inl ⟨rfl, t, tm, rn⟩) ⟨t, tm, (l23.trans (Le.new hpr)).dp hdx, .inl ⟨rfl, rn⟩⟩
      · subst e
        refine iteF ⟨_, rfl, rfl, _, rfl, ?_⟩
        have new : (∀ u ∈ S.take i, ∃ d : Nat, d ≤ c ∧ RepS u L d) → ∀ u ∈ S.take (i + 1), ∃ d : Nat, d ≤ c ∧ RepS u L d := fun h u hu => by
          rw [tk] at hu
          rcases List.mem_append.mp hu with z | z
          · exact h u z
          · rw [List.mem_singleton.mp z]
            exact ⟨c, Nat.le_refl _, rs⟩
        rcases inv with ⟨i0, ex, ey⟩ | ⟨c', b', ey, ex, ⟨t', tm', dt', rs'⟩, hall⟩
        · subst ey
          refine iteT (iteT ⟨_, rfl, _, rfl, _, _, rfl, _, _, _, _, rfl, l23, .inr ⟨c, b0, rfl, rfl, ⟨t, tm, hdx, rs⟩, new fun u hu => ?_⟩⟩)
          rw [i0] at hu
          cases hu
        · subst ey
          subst ex
          refine iteF ⟨_, rfl, _, rfl, _, _, rfl, rfl, _, rfl, ?_⟩
          by_cases cc : ((c' : Nat) : Int) < ((c : Nat) : Int)
          · rw [decide_eq_true cc]
            refine iteT ⟨_, rfl, _, rfl, _, _, rfl, _, _, _, _, rfl, l23, .inr ⟨c, b0, rfl, rfl, ⟨t, tm, hdx, rs⟩, new fun u hu => ?_⟩⟩
            obtain ⟨d, hd, z⟩ := hall u hu
            exact ⟨d, by omega, z⟩
          · rw [decide_eq_false cc]
            refine iteF ⟨_, _, _, _, rfl, l23, .inr ⟨c', b', rfl, rfl, ⟨t', tm', dt', rs'⟩, fun u hu => ?_⟩⟩
            rw [tk] at hu
            rcases List.mem_append.mp hu with z | z
            · exact hall u z
            · rw [List.mem_singleton.mp z]
              exact ⟨c, by omega, rs⟩
  · rintro σ2 H2 ⟨x, y, z4, z5, rfl, l2, inv⟩
    rcases inv with ⟨i0, _, _⟩ | ⟨c', b', ey, ex, ⟨t', tm', dt', rs'⟩, hall⟩
    · omega
    subst ey
    subst ex
    rw [tsl, List.take_length] at hall
    refine ⟨_, rfl, _, rfl, (by decide : 2 ≤ sizeLine), fun pr hpr => ?_⟩
    exact q pr _ _ _ (l1.trans (l2.trans (Le.new hpr))) (sqt upd_same) (.inr ⟨c', rfl, ⟨t', tm', rs'⟩, hall⟩) ⟨t', tm', (l2.trans (Le.new hpr)).dp dt', .inr ⟨c', rfl, rs'⟩⟩
end
end Wr

set_option Elab.async false
set_option linter.all false
set_option maxRecDepth 100000
set_option maxHeartbeats 2000000
namespace Wr
open PySem PySem.Spec PyProof.Rows L2
section
variable {P : Program} {w : World} {K : PySem.W.Frag} {mg : Str → Option Value} {base : Heap}
def spBetween (K : PySem.W.Frag) : Sp := fun vs H Q _ => ∃ (v : V) (d : PyData) (lo hi : Int), vs = [v, .int lo, .int hi] ∧ Dp K H v d ∧ Q (.bl (betwD d lo hi)) H
theorem ok_between (G : Gx K mg) (k : Nat) : FnOk P w K mg base CX0 (k + 1) G.f_is_between G.fd_is_between ["value", "low", "high"] (spBetween K) := by
  refine G.F_is_between.ok sc_is_between (fun vs H Q E h => ?_) (fun cdv A outer s H vs Q E hr h => ?_)
  · obtain ⟨v, d, lo, hi, rfl, _⟩ := h
    rfl
  obtain ⟨v, d, lo, hi, rfl, hd, q⟩ := h
  refine ⟨_, (pss_one (ps_ret (pe_and (pe_callB call_isi (by rfl) G.isinstance (by decide +kernel) (pa_cons (pv 0) (pa_cons (pe_bltn (v := .ty "int") (u := .type "int") (by rfl) G.int (by decide +kernel) rfl) pa_nil))) (pe_and (pe_not (pe_callB call_isi (by rfl) G.isinstance (by decide +kernel) (pa_cons (pv 0) (pa_cons (pe_bltn (v := .ty "bool") (u := .type "bool") (by rfl) G.bool (by decide +kernel) rfl) pa_nil)))) (pe_one (pe_chain op_le op_le (pv 1) (pv 0) (pv 2))))))), ?_⟩
  refine ⟨_, rfl, v, _, _, _, _, rfl, .ty "int", dp_ty hd, kit_ty (kit_int d), _, rfl, ?_⟩
  cases d with
  | int i =>
    refine iteT ⟨_, rfl, v, _, _, _, _, rfl, .ty "bool", dp_ty hd, kit_ty (kit_bool _), _, rfl, _, rfl, iteT ?_⟩
    cases hd
    refine ⟨_, rfl, _, rfl, _, _, rfl, rfl, _, rfl, ite2 (fun c => ?_) (fun c => ?_)⟩
    · refine ⟨_, rfl, _, _, rfl, rfl, ?_⟩
      have e : betwD (.int i) lo hi = decide (i ≤ hi) := by
        show (decide (lo ≤ i) && decide (i ≤ hi)) = _
        rw [show decide (lo ≤ i) = true from c]
        rfl
      rw [e] at q
      exact q
    · have e : betwD (.int i) lo hi = false := by
        show (decide (lo ≤ i) && decide (i ≤ hi)) = _
        rw [show decide (lo ≤ i) = false from Bool.eq_false_iff.mpr c]
        rfl
      rw [e] at q
      exact q
  | bool b => exact iteT ⟨_, rfl, v, _, _, _, _, rfl, .ty "bool", dp_ty hd, kit_ty (kit_bool _), _, rfl, _, rfl, iteF q⟩
  | none => exact iteF q
  | str x => exact iteF q
  | list xs => exact iteF q
  | tuple xs => exact iteF q
  | dict kvs => exact iteF q
end
end Wr

set_option Elab.async false
set_option linter.all false
set_option maxRecDepth 100000
set_option maxHeartbeats 2000000
namespace Wr
open PySem PySem.Spec PyProof.Rows L2
theorem noFree {env : Env} {scope : Scope} (h : ∀ y ∈ scope.names, y.2 ≠ .free) : ∀ y ∈ scope.names, y.2 = .free → ∃ c, env.cells.lookup y.1 = some c := fun y hy e => absurd e (h y hy)
/-! ### 'a' <= x <= 'z' -/
def azB (c : Nat) : Bool := decide (97 ≤ c) && decide (c ≤ 122)
theorem lt_one (a b : Nat) : decide ([a] < [b]) = decide (a < b) := by
  by_cases h : a < b
  · rw [decide_eq_true h]
    exact decide_eq_true (List.Lex.rel h)
  · rw [decide_eq_false h]
    refine decide_eq_false fun q => ?_
    cases q with
    | rel r => exact h r
    | cons r => cases r
theorem elt_az {prog : Program} {w : World} {scope : Scope} {x : Str} {j1 j2 : Nat} {p1 p2 p3 p4 : Pos} (hk : scope.kind = .function) (hl : scope.names.lookup x = some .local) (hd : (x == ("__debug__" : Str)) = false := by decide) :
    GxR.EltP prog w scope x (.Compare (.Constant (.str "a") j1 p1) [.LtE, .LtE] [.Name x p2, .Constant (.str "z") j2 p3] p4) azB := by
  intro cenv A' E' c t s2 m2 hs hn hm
  refine Compare_chain (Calls.Constant_str (chain_link ?_))
  refine wpAny_Name (wpAny_loadName_local (by rw [hs]; exact hk) (show cenv.scope.names.lookup x = some .local by rw [hs]; exact hl) (m := m2) ?_ hm ?_) hd
  · exact hn
  refine PySem.P.le_str (wpAny_truthy_bool ?_)
  have e1 : (!decide ([c] < [97])) = decide (97 ≤ c) := by
    rw [lt_one]
    by_cases h : c < 97
    · rw [decide_eq_true h, decide_eq_false (by omega)]
      rfl
    · rw [decide_eq_false h, decide_eq_true (by omega)]
      rfl
  have e2 : (!decide ([122] < [c])) = decide (c ≤ 122) := by
    rw [lt_one]
    by_cases h : 122 < c
    · rw [decide_eq_true h, decide_eq_false (by omega)]
      rfl
    · rw [decide_eq_false h, decide_eq_true (by omega)]
      rfl
  have e3 : (!decide ((⟨#[c]⟩ : Str).cps.toList < ("a" : Str).cps.toList)) = decide (97 ≤ c) := e1
  have e4 : (!decide (("z" : Str).cps.toList < (⟨#[c]⟩ : Str).cps.toList)) = decide (c ≤ 122) := e2
  cases h : decide (97 ≤ c) with
  | false =>
    rw [e3, h]
    refine ite_ff ⟨?_, GxR.keeps_tok _ _⟩
    unfold azB
    rw [h]
    rfl
  | true =>
    rw [e3, h]
    refine ite_tt (chain_last (Calls.Constant_str (PySem.P.le_str ⟨?_, GxR.keeps_tok _ _⟩)))
    unfold azB
    rw [h]
    exact congrArg Value.bool e4
section
variable {P : Program} {w : World} {K : PySem.W.Frag} {mg : Str → Option Value} {base : Heap}
def nameB (z : Str) : Bool := decide (1 ≤ z.length) && decide (z.length ≤ 8) && z.cps.toList.all azB
def nameD (d : PyData) : Bool := match d with
  | .str z => nameB z
  | _ => false
def spName (K : PySem.W.Frag) (T : Addr) : Sp := fun vs H Q _ => ∃ (v : V) (d : PyData), vs = [v] ∧ Dp K H v d ∧ (∀ z, d = .str z → z.length ≤ 1000) ∧ GxR.TabG H T ∧ ∀ H', Le H H' → Q (.bl (nameD d)) H'
theorem ok_name (G : Gx K mg) (TB : GxR.TabB base mg G.c_is_name G.p_is_name) (k : Nat) : FnOk P w K mg base CX0 (k + 2) G.f_is_name G.fd_is_name ["value"] (spName K G.p_is_name) := by
  refine G.FC_is_name.ok sc_is_name (fun vs H Q E h => ?_) (fun A outer s H vs Q E hr h => ?_)
  · obtain ⟨v, d, rfl, _⟩ := h
    rfl
  obtain ⟨v, d, rfl, hd, hz, hT, q⟩ := h
  refine ⟨_, (pss_one (ps_ret (pe_and (pe_callB call_isi (by rfl) G.isinstance (by decide +kernel) (pa_cons (pv 0) (pa_cons (pe_bltn (v := .ty "str") (u := .type "str") (by rfl) G.str (by decide +kernel) rfl) pa_nil))) (pe_and (pe_chain op_le op_le pe_int (pe_callB call_len_str (by rfl) G.len PySem.boot_len (pa_cons (pv 0) pa_nil)) pe_int) (pe_one (GxR.pe_allS hr (by rfl) G.all (by decide +kernel) TB rfl ⟨rfl, rfl, by decide +kernel, rfl, rfl, noFree (by decide +kernel)⟩ (pv 0) (elt_az rfl rfl) (fun _ => rfl))))))), ?_⟩
  refine ⟨_, rfl, v, _, _, _, _, rfl, .ty "str", dp_ty hd, kit_ty (kit_str d), _, rfl, ?_⟩
  cases d with
  | str z =>
    have hz := hz z rfl
    cases hd
    have fin : ∀ b : Bool, b = decide (1 ≤ z.length) → ∀ c : Bool, c = decide (z.length ≤ 8) → ∀ a : Bool, a = z.cps.toList.all azB → nameD (.str z) = (b && c && a) := fun b hb c hc a ha => by
      rw [hb, hc, ha]
      rfl
    refine iteT ⟨_, rfl, z, rfl, sz (by omega), _, _, rfl, rfl, _, rfl, ite2 (fun c => ?_) (fun c => ?_)⟩
    · have c1 : (1 : Int) ≤ (z.length : Int) := of_decide_eq_true c
      have d1 : true = decide (1 ≤ z.length) := (decide_eq_true (by omega)).symm
      refine ⟨_, _, rfl, rfl, _, rfl, ite2 (fun c => ?_) (fun c => ?_)⟩
      · have c2 : (z.length : Int) ≤ 8 := of_decide_eq_true c
        have d2 : true = decide (z.length ≤ 8) := (decide_eq_true (by omega)).symm
        refine ⟨_, rfl, z, rfl, hT, fun H2 ht => ?_⟩
        have q' := q H2 (Le.tabbed ht hT)
        rw [fin true d1 true d2 _ rfl] at q'
        exact q'
      · have c2 : ¬ (z.length : Int) ≤ 8 := fun z => c (decide_eq_true z)
        have d2 : false = decide (z.length ≤ 8) := (decide_eq_false (by omega)).symm
        have q' := q H (Le.refl H)
        rw [fin true d1 false d2 _ rfl] at q'
        exact q'
    · have c1 : ¬ (1 : Int) ≤ (z.length : Int) := fun z => c (decide_eq_true z)
      have d1 : false = decide (1 ≤ z.length) := (decide_eq_false (by omega)).symm
      have q' := q H (Le.refl H)
      rw [fin false d1 _ rfl _ rfl] at q'
      exact ⟨_, rfl, iteF q'⟩
  | int i => exact iteF (q _ (Le.refl H))
  | bool b => exact iteF (q _ (Le.refl H))
  | none => exact iteF (q _ (Le.refl H))
  | list xs => exact iteF (q _ (Le.refl H))
  | tuple xs => exact iteF (q _ (Le.refl H))
  | dict kvs => exact iteF (q _ (Le.refl H))
end
end Wr

set_option Elab.async false
set_option linter.all false
set_option maxRecDepth 100000
set_option maxHeartbeats 2000000
namespace Wr
open PySem PySem.Spec PyProof.Rows L2
/-! ### good data, and its size -/
mutual
def goodD : PyData → Bool
  | .str z => decide (z.length ≤ 1000) && PyData.strOk z
  | .list xs => goodL xs
  | .tuple xs => goodL xs
  | .dict _ => false
  | _ => true
def goodL : List PyData → Bool
  | [] => true
  | d :: r => goodD d && goodL r
end
mutual
def sizeD : PyData → Nat
  | .list xs => sizeL xs + 1
  | .tuple xs => sizeL xs + 1
  | _ => 1
def sizeL : List PyData → Nat
  | [] => 0
  | d :: r => sizeD d + sizeL r
end
theorem sizeD_pos (d : PyData) : 1 ≤ sizeD d := by
  cases d <;> simp only [sizeD] <;> omega
theorem goodL_mem : ∀ {ds : List PyData} {d : PyData}, goodL ds = true → d ∈ ds → goodD d = true
  | e :: r, d, h, hm => by
    rw [goodL, Bool.and_eq_true] at h
    rcases List.mem_cons.mp hm with z | z
    · rw [z]
      exact h.1
    · exact goodL_mem h.2 z
theorem goodL_all {ds : List PyData} : goodL ds = true ↔ ∀ d ∈ ds, goodD d = true := by
  constructor
  · exact fun h d hd => goodL_mem h hd
  · intro h
    induction ds with
    | nil => rfl
    | cons e r ih =>
      rw [goodL, h e (List.mem_cons_self ..), ih fun d hd => h d (List.mem_cons_of_mem _ hd)]
      rfl
theorem sizeL_mem : ∀ {ds : List PyData} {d : PyData}, d ∈ ds → sizeD d ≤ sizeL ds
  | e :: r, d, hm => by
    rw [sizeL]
    rcases List.mem_cons.mp hm with z | z
    · rw [z]
      omega
    · have := sizeL_mem z
      omega
theorem sizeL_append (xs ys : List PyData) : sizeL (xs ++ ys) = sizeL xs + sizeL ys := by
  induction xs with
  | nil => simp [sizeL]
  | cons e r ih =>
    rw [List.cons_append, sizeL, sizeL, ih]
    omega
theorem sizeL_len (xs : List PyData) : xs.length ≤ sizeL xs := by
  induction xs with
  | nil => simp
  | cons e r ih =>
    rw [List.length_cons, sizeL]
    have := sizeD_pos e
    omega
theorem sizeL_last (ds : List PyData) (d : PyData) : sizeL (ds ++ [d]) = sizeL ds + sizeD d := by
  rw [sizeL_append, sizeL, sizeL, Nat.add_zero]
end Wr

set_option Elab.async false
set_option linter.all false
set_option maxRecDepth 100000
set_option maxHeartbeats 2000000
namespace Wr
open PySem PySem.Spec PyProof.Rows L2
theorem dpAll3 {K : PySem.W.Frag} {H : Hp} : ∀ {xs : List V} {ds : List PyData}, DpAll K H xs ds → ds.length = 3 → ∃ x y z n p w, xs = [x, y, z] ∧ ds = [n, p, w] ∧ Dp K H x n ∧ Dp K H y p ∧ Dp K H z w
  | _, _, .cons h1 (.cons h2 (.cons h3 .nil)), _ => ⟨_, _, _, _, _, _, rfl, rfl, h1, h2, h3⟩
  | _, _, .cons _ (.cons _ (.cons _ (.cons _ _))), e => by simp at e
  | _, _, .cons _ (.cons _ .nil), e => by simp at e
  | _, _, .cons _ .nil, e => by simp at e
  | _, _, .nil, e => by simp at e
def strandD (d : PyData) : Bool := match d with
  | .tuple [n, p, w] => nameD n && betwD p 1 99 && betwD w 0 20
  | _ => false
theorem strandD_len {ds : List PyData} (h : ds.length ≠ 3) : strandD (.tuple ds) = false := by
  match ds, h with
  | [], _ => rfl
  | [_], _ => rfl
  | [_, _], _ => rfl
  | [_, _, _], h => exact absurd rfl h
  | _ :: _ :: _ :: _ :: _, _ => rfl
section
variable {P : Program} {w : World} {K : PySem.W.Frag} {mg : Str → Option Value} {base : Heap}
theorem tabN (G : Gx K mg) : True := trivial
def spStrand (K : PySem.W.Frag) (T : Addr) : Sp := fun vs H Q _ => ∃ (v : V) (d : PyData), vs = [v] ∧ Dp K H v d ∧ goodD d = true ∧ GxR.TabG H T ∧ ∀ H', Le H H' → Q (.bl (strandD d)) H'
theorem ok_strand (G : Gx K mg) (TB : GxR.TabB base mg G.c_is_name G.p_is_name) (k : Nat) : FnOk P w K mg base CX0 (k + 3) G.f_is_strand G.fd_is_strand ["value"] (spStrand K G.p_is_name) := by
  have G_is_name : FnOk P w K mg base CX0 (k + 2) G.f_is_name G.fd_is_name ["value"] (spName K G.p_is_name) := ok_name G TB k
  have G_is_between : FnOk P w K mg base CX0 (k + 2) G.f_is_between G.fd_is_between ["value", "low", "high"] (spBetween K) := ok_between G (k + 1)
  refine G.F_is_strand.ok sc_is_strand (fun vs H Q E h => ?_) (fun cdv A outer s H vs Q E hr h => ?_)
  · obtain ⟨v, d, rfl, _⟩ := h
    rfl
  obtain ⟨v, d, rfl, hd, hz, hT, q⟩ := h
  refine ⟨_, (pss_cons (ps_if (PW.pt (pw_or (pt_not (pt_val (pe_callB call_isi (by rfl) G.isinstance (by decide +kernel) (pa_cons (pv 0) (pa_cons (pe_bltn (v := .ty "tuple") (u := .type "tuple") (by rfl) G.tuple (by decide +kernel) rfl) pa_nil))))) (pw_or1 (pt_cmpR op_ne (pe_callB call_len_seq (by rfl) G.len PySem.boot_len (pa_cons (pv 0) pa_nil)) pe_int (nomark _))))) (pss_one (ps_ret pe_bl)) pss_nil)
    (pss_cons (ps_asg (pv 0) (pg_tup rfl (pgs_cons (pg_name (i := 1) sc_is_strand.nd rfl (.inl rfl)) (pgs_cons (pg_name (i := 2) sc_is_strand.nd rfl (.inl rfl)) (pgs_cons (pg_name (i := 3) sc_is_strand.nd rfl (.inl rfl)) pgs_nil)))))
    (pss_one (ps_ret (pe_and (pe_call G_is_name hr (by rfl) G.m_is_name G.F_is_name.kp G.b_is_name .nil pass0 (pa_cons (pv 1) pa_nil)) (pe_and (pe_call G_is_between hr (by rfl) G.m_is_between G.F_is_between.kp G.b_is_between .nil pass0 (pa_cons (pv 2) (pa_cons pe_int (pa_cons pe_int pa_nil)))) (pe_one (pe_call G_is_between hr (by rfl) G.m_is_between G.F_is_between.kp G.b_is_between .nil pass0 (pa_cons (pv 3) (pa_cons pe_int (pa_cons (pe_glob (v := .int 20) rfl G.c_LARGEST_WEAR ⟨_, rfl⟩) pa_nil))))))))))), ?_⟩
  refine ⟨_, rfl, v, _, _, _, _, rfl, .ty "tuple", dp_ty hd, kit_ty (kit_tuple d), _, rfl, ?_⟩
  cases d with
  | tuple ds =>
    cases hd with
    | @tup a xs _ hS hAll =>
    have hlen := dpAll_length hAll
    refine iteF ⟨_, rfl, a, _, rfl, .inr hS, rfl, _, rfl, ?_⟩
    by_cases h3 : ds.length = 3
    · have e3 : (!decide (V.int ((xs.length : Nat) : Int) = V.int 3)) = false := by
        rw [hlen, h3]
        rfl
      rw [e3]
      refine iteF ?_
      obtain ⟨x, y, z, n, p, w, rfl, rfl, h1, h2, h3⟩ := dpAll3 hAll h3
      rw [goodD, goodL_all] at hz
      refine ⟨_, rfl, a, _, rfl, hS, rfl, _, _, rfl, _, _, rfl, _, _, rfl, rfl, ?_⟩
      refine ⟨_, rfl, _, n, rfl, h1, ?_, hT, fun H1 l1 => ?_⟩
      · rintro z rfl
        have := hz (.str z) (List.mem_cons_self ..)
        rw [goodD, Bool.and_eq_true] at this
        exact of_decide_eq_true this.1
      refine ⟨_, rfl, ?_⟩
      cases e1 : nameD n with
      | false =>
        have q' := q H1 l1
        rw [strandD, e1] at q'
        exact iteF q'
      | true =>
        refine iteT ⟨_, rfl, _, p, 1, 99, rfl, l1.dp h2, _, rfl, ?_⟩
        cases e2 : betwD p 1 99 with
        | false =>
          have q' := q H1 l1
          rw [strandD, e1, e2] at q'
          exact iteF q'
        | true =>
          refine iteT ⟨_, rfl, _, w, 0, 20, rfl, l1.dp h3, ?_⟩
          have q' := q H1 l1
          rw [strandD, e1, e2] at q'
          exact q'
    · have e3 : (!decide (V.int ((xs.length : Nat) : Int) = V.int 3)) = true := by
        rw [hlen]
        rw [decide_eq_false (fun e => h3 (by injection e with e; omega))]
        rfl
      rw [e3]
      have q' := q H (Le.refl H)
      rw [strandD_len h3] at q'
      exact iteT q'
  | int i => exact iteT (iteT (q _ (Le.refl H)))
  | bool b => exact iteT (iteT (q _ (Le.refl H)))
  | none => exact iteT (iteT (q _ (Le.refl H)))
  | list xs => exact iteT (iteT (q _ (Le.refl H)))
  | str xs => exact iteT (iteT (q _ (Le.refl H)))
  | dict kvs => exact iteT (iteT (q _ (Le.refl H)))
end
end Wr

set_option Elab.async false
set_option linter.all false
set_option maxRecDepth 100000
set_option maxHeartbeats 2000000
namespace Wr
open PySem PySem.Spec PyProof.Rows L2
/-! ### the leaves, as is_rig meets them -/
def nameOf : PyData → Str
  | .tuple (.str n :: _) => n
  | _ => ""
mutual
def leafP : PyData → List (Option Str)
  | .tuple xs => if strandD (.tuple xs) = true then [some (nameOf (.tuple xs))] else if 2 ≤ xs.length then leafPL xs else [none]
  | _ => [none]
def leafPL : List PyData → List (Option Str)
  | [] => []
  | d :: r => leafP d ++ leafPL r
end
theorem leafPL_append (xs ys : List PyData) : leafPL (xs ++ ys) = leafPL xs ++ leafPL ys := by
  induction xs with
  | nil => rfl
  | cons e r ih => rw [List.cons_append, leafPL, leafPL, ih, List.append_assoc]
theorem strand_shape {d : PyData} (h : strandD d = true) : ∃ n p w, d = .tuple [.str n, p, w] := by
  unfold strandD at h
  split at h
  · rename_i n p w
    cases n with
    | str z => exact ⟨z, p, w, rfl⟩
    | _ => simp [nameD] at h
  · cases h
theorem leafP_strand {d : PyData} (h : strandD d = true) : leafP d = [some (nameOf d)] := by
  obtain ⟨n, p, w, rfl⟩ := strand_shape h
  rw [leafP, if_pos h]
theorem leafP_node {ds : List PyData} (h : strandD (.tuple ds) = false) (h2 : 2 ≤ ds.length) : leafP (.tuple ds) = leafPL ds := by
  rw [leafP, if_neg (by rw [h]; decide), if_pos h2]
def OkN (ns : List (Option Str)) : Prop := none ∉ ns ∧ ns.length ≤ 6 ∧ ns.Nodup
instance (ns : List (Option Str)) : Decidable (OkN ns) := by unfold OkN; infer_instance
theorem OkN.perm {xs ys : List (Option Str)} (h : xs.Perm ys) : OkN xs ↔ OkN ys := by
  unfold OkN
  rw [h.mem_iff, h.length_eq, h.nodup_iff]
def isRigB (d : PyData) : Bool := decide (OkN (leafP d))
theorem inV_str (n : Str) (nm : List Str) : inV (.str n) (nm.map V.str) = decide (n ∈ nm) := by
  unfold inV
  rw [List.any_map, Bool.eq_iff_iff, List.any_eq_true, decide_eq_true_iff]
  constructor
  · intro ⟨x, hx, e⟩
    have e2 : x = n := eq_of_beq (show (x == n) = true from e)
    rw [← e2]
    exact hx
  · exact fun h => ⟨n, h, beq_self_eq_true (a := n)⟩
theorem all_flat (nm : List Str) : (nm.map V.str).all flatV = true := by
  rw [List.all_map, List.all_eq_true]
  exact fun _ _ => rfl
theorem split_last {K : PySem.W.Frag} {H : Hp} {us : List V} {ds : List PyData} (h : DpAll K H us ds) (hne : us ≠ []) : ∃ ur u dr d, us = ur ++ [u] ∧ ds = dr ++ [d] ∧ DpAll K H ur dr ∧ Dp K H u d := by
  induction us generalizing ds with
  | nil => exact absurd rfl hne
  | cons x r ih =>
    cases h with
    | @cons _ _ e es h1 h2 =>
      by_cases hr : r = []
      · subst hr
        cases h2
        exact ⟨[], x, [], e, rfl, rfl, .nil, h1⟩
      · obtain ⟨ur, u, dr, d, rfl, rfl, q1, q2⟩ := ih h2 hr
        exact ⟨x :: ur, u, e :: dr, d, rfl, rfl, .cons h1 q1, q2⟩
theorem leafP_else {d : PyData} (h : strandD d = false) (h2 : ∀ ds, d = .tuple ds → ds.length < 2) : leafP d = [none] := by
  cases d with
  | tuple ds => rw [leafP, if_neg (by rw [h]; decide), if_neg (by have := h2 ds rfl; omega)]
  | _ => simp [leafP]
theorem dup_in {nm : List Str} {n : Str} {rest : List (Option Str)} (h : n ∈ nm) : ¬ OkN (nm.map some ++ (rest ++ [some n])) := fun ⟨_, _, nd⟩ => by
  rw [List.nodup_append] at nd
  exact nd.2.2 (some n) (List.mem_map.mpr ⟨n, h, rfl⟩) (some n) (by simp) rfl
section
variable {P : Program} {w : World} {K : PySem.W.Frag} {mg : Str → Option Value} {base : Heap}
def spIsRig (K : PySem.W.Frag) (T : Addr) : Sp := fun vs H Q _ => ∃ (v : V) (d : PyData), vs = [v] ∧ Dp K H v d ∧ goodD d = true ∧ sizeD d ≤ 1000 ∧ GxR.TabG H T ∧ ∀ H', Le H H' → Q (.bl (isRigB d)) H'
structure IsRigW (K : PySem.W.Frag) (H : Hp) (v : V) (d : PyData) (nl wt : Addr) (m : Nat) (σ' : L2.St) (H' : Hp) : Prop where
  ex : ∃ (y3 : Option V) (nm : List Str) (us : List V) (ds : List PyData), σ' = [some v, some (.ref nl), some (.ref wt), y3] ∧ H' nl = some (.lst (nm.map V.str)) ∧ H' wt = some (.lst us) ∧ DpAll K H us ds ∧ m = sizeL ds ∧ sizeL ds ≤ 1000 ∧ goodL ds = true ∧ nm.Nodup ∧ nm.length ≤ 6 ∧ (OkN (nm.map some ++ leafPL ds) ↔ OkN (leafP d))
  le : Le H H'
theorem ok_isrig (G : Gx K mg) (TB : GxR.TabB base mg G.c_is_name G.p_is_name) (k : Nat) : FnOk P w K mg base CX0 (k + 4) G.f_is_rig G.fd_is_rig ["value"] (spIsRig K G.p_is_name) := by
  have G_is_strand : FnOk P w K mg base CX0 (k + 3) G.f_is_strand G.fd_is_strand ["value"] (spStrand K G.p_is_name) := ok_strand G TB k
  refine G.F_is_rig.ok sc_is_rig (fun vs H Q E h => ?_) (fun cdv A outer s H vs Q E hr h => ?_)
  · obtain ⟨v, d, rfl, _⟩ := h
    rfl
  obtain ⟨v, d, rfl, hd, hz, hsz, hT, q⟩ := h
  refine ⟨_, (pss_cons (ps_set (i := 1) sc_is_rig.nd rfl (.inl rfl) (pe_lst pa_nil))
    (pss_cons (ps_set (i := 2) sc_is_rig.nd rfl (.inl rfl) (pe_lst (pa_cons (pv 0) pa_nil)))
    (pss_cons (ps_while PassesOwn.never (pt_truth (pv 2) (by intro _; rfl)) (pss_cons (ps_set (i := 3) sc_is_rig.nd rfl (.inl rfl) (pe_bm0 PySem.F.plainAttrs_list PySem.F.slot_list_pop PySem.F.type_list_pop mt_pop (pv 2)))
    (pss_one (ps_if (pt_val (pe_call G_is_strand hr (by rfl) G.m_is_strand G.F_is_strand.kp G.b_is_strand .nil pass0 (pa_cons (pv 3) pa_nil))) (pss_cons (ps_if (PW.pt (pw_or (pt_cmpR op_in_seq (pe_ix ix_tup (pv 3) pe_int (fun _ _ => rfl)) (pv 1) (by rfl)) (pw_or1 (pt_cmpR op_eq (pe_callB call_len_seq (by rfl) G.len PySem.boot_len (pa_cons (pv 1) pa_nil)) (pe_glob (v := .int 6) rfl G.c_MOST_STRANDS ⟨_, rfl⟩) (nomark _))))) (pss_one (ps_ret pe_bl)) pss_nil)
    (pss_one (ps_expr (pe_bm PySem.F.plainAttrs_list PySem.F.slot_list_append PySem.F.type_list_append mt_append (pv 1) (pa_cons (pe_ix ix_tup (pv 3) pe_int (fun _ _ => rfl)) pa_nil))))) (pss_one (ps_if (PW.pt (pw_and (pt_val (pe_callB call_isi (by rfl) G.isinstance (by decide +kernel) (pa_cons (pv 3) (pa_cons (pe_bltn (v := .ty "tuple") (u := .type "tuple") (by rfl) G.tuple (by decide +kernel) rfl) pa_nil)))) (pw_and1 (pt_cmpR op_ge (pe_callB call_len_seq (by rfl) G.len PySem.boot_len (pa_cons (pv 3) pa_nil)) pe_int (nomark _))))) (pss_one (ps_expr (pe_bm PySem.F.plainAttrs_list PySem.F.slot_list_extend PySem.F.type_list_extend mt_extT (pv 2) (pa_cons (pv 3) pa_nil)))) (pss_one (ps_ret pe_bl))))))))
    (pss_one (ps_ret pe_bl))))), ?_⟩
  refine ⟨Nat.zero_le _, fun nl hnl => ?_⟩
  refine ⟨_, rfl, (by decide : 1 ≤ sizeLine), fun wt hwt => ?_⟩
  have l1 := (Le.new (o := .lst []) hnl).trans (Le.new (o := .lst [v]) hwt)
  have hwH : H wt = none := (Le.new (o := .lst []) hnl).dom _ hwt
  have nwn : nl ≠ wt := ne_of_none upd_same hwt
  refine ⟨IsRigW K H v d nl wt, ⟨sizeL [d], ⟨⟨none, [], [v], [d], rfl, (upd_ne nwn).trans upd_same, upd_same, .cons hd .nil, rfl, by simpa [sizeL] using hsz, by simpa [goodL] using hz, List.nodup_nil, by decide, ?_⟩, l1⟩⟩, ?_⟩
  · rw [leafPL, leafPL, List.append_nil]
    exact Iff.rfl
  rintro m σ' H' ⟨⟨y3, nm, us, ds, rfl, kn, kw, hAll, rfl, hs1, hg, hnd, hn6, hiff⟩, le'⟩
  have hlen := dpAll_length hAll
  refine ⟨_, rfl, _, .inl ⟨us, sql kw, rfl⟩, ?_⟩
  by_cases hne : us = []
  · subst hne
    refine iteF ?_
    have e0 : ds = [] := List.length_eq_zero_iff.mp hlen.symm
    subst e0
    have q' := q H' le'
    have e1 : isRigB d = true := by
      refine decide_eq_true (hiff.mp ⟨?_, ?_, ?_⟩)
      · simp [leafPL]
      · simpa [leafPL] using hn6
      · rw [leafPL, List.append_nil]
        exact List.Pairwise.map some (fun a b h e => h (Option.some.inj e)) hnd
    rw [e1] at q'
    exact q'
  · have ene : (!us.isEmpty) = true := by
      cases us with
      | nil => exact absurd rfl hne
      | cons _ _ => rfl
    rw [ene]
    obtain ⟨ur, u, dr, e, rfl, rfl, hAr, hu⟩ := split_last hAll hne
    rw [goodL_all] at hg
    have hge : goodD e = true := hg e (by simp)
    have hgr : goodL dr = true := goodL_all.mpr fun x hx => hg x (by simp [hx])
    rw [sizeL_last] at hs1
    have hep := sizeD_pos e
    refine iteT ⟨fun σ2 H2 => ∃ m', m' < sizeL (dr ++ [e]) ∧ IsRigW K H v d nl wt m' σ2 H2, fun _ _ h => h, ?_⟩
    -- part = waiting.pop()
    refine ⟨_, rfl, .inl ⟨rfl, _, sql kw⟩, wt, _, u, rfl, rfl, kw, by simp, ?_⟩
    have edl : (ur ++ [u]).dropLast = ur := by simp
    have kw2 : upd H' wt (.lst (ur ++ [u]).dropLast) wt = some (.lst ur) := by rw [upd_same, edl]
    have kn2 : upd H' wt (.lst (ur ++ [u]).dropLast) nl = some (.lst (nm.map V.str)) := (upd_ne nwn).trans kn
    have le2 : Le H (upd H' wt (.lst (ur ++ [u]).dropLast)) := le'.mut hwH
    generalize upd H' wt (.lst (ur ++ [u]).dropLast) = H2 at kw2 kn2 le2
    -- is_strand(part)
    refine ⟨_, rfl, u, e, rfl, le2.dp hu, hge, le2.tab _ hT, fun H3 le3 => ?_⟩
    have kw3 := le3.lst kw2
    have kn3 := le3.lst kn2
    have le3' := le2.trans le3
    refine ⟨_, rfl, ?_⟩
    cases hst : strandD e with
    | true =>
      refine iteT ?_
      obtain ⟨n, p, w, rfl⟩ := strand_shape hst
      have elf : leafPL (dr ++ [.tuple [.str n, p, w]]) = leafPL dr ++ [some n] := by
        rw [leafPL_append, leafPL, leafPL, leafP_strand hst, List.append_nil]
        rfl
      rw [elf] at hiff
      cases hu with
      | @tup a xs _ hS hA3 =>
      obtain ⟨x, y, z, n', p', w', rfl, e3, h1, h2, h3⟩ := dpAll3 hA3 rfl
      cases e3
      cases h1
      have hS3 := le3'.sqt hS
      refine ⟨_, rfl, a, _, _, _, rfl, rfl, hS3, atI_nat (j := 0) rfl, _, rfl, nl, _, rfl, .inl (sql kn3), rfl, all_flat nm, _, rfl, ?_⟩
      have ein : (if false = true then !inV (.str n) (nm.map V.str) else inV (.str n) (nm.map V.str)) = decide (n ∈ nm) := by rw [if_neg Bool.false_ne_true, inV_str]
      rw [ein]
      by_cases hin : n ∈ nm
      · rw [decide_eq_true hin]
        refine iteT ?_
        have q' := q H3 le3'
        have e1 : isRigB d = false := decide_eq_false fun z => dup_in hin (hiff.mpr z)
        rw [e1] at q'
        exact iteT q'
      · rw [decide_eq_false hin]
        refine iteF ⟨_, rfl, nl, _, rfl, .inl (sql kn3), rfl, _, rfl, ?_⟩
        by_cases h6 : nm.length = 6
        · have e6 : decide (V.int (((nm.map V.str).length : Nat) : Int) = V.int 6) = true := by
            rw [List.length_map, h6]
            rfl
          rw [e6]
          refine iteT ?_
          have q' := q H3 le3'
          have e1 : isRigB d = false := decide_eq_false fun z => by
            have z2 := (hiff.mpr z).2.1
            rw [List.length_append, List.length_append, List.length_map, List.length_singleton] at z2
            omega
          rw [e1] at q'
          exact q'
        · have e6 : decide (V.int (((nm.map V.str).length : Nat) : Int) = V.int 6) = false := by
            refine decide_eq_false fun z => h6 ?_
            rw [List.length_map] at z
            injection z with z
            omega
          rw [e6]
          refine iteF ?_
          refine ⟨_, rfl, .inl ⟨rfl, _, sql kn3⟩, _, rfl, a, _, _, _, rfl, rfl, hS3, atI_nat (j := 0) rfl, nl, _, _, rfl, rfl, kn3, szlt (by rw [List.length_map]; omega), ?_⟩
          refine ⟨sizeL dr, by rw [sizeL_last]; omega, ⟨⟨_, nm ++ [n], ur, dr, rfl, ?_, (upd_ne nwn.symm).trans kw3, hAr, rfl, by omega, hgr, ?_, ?_, ?_⟩, le3'.mut hnl⟩⟩
          · rw [upd_same, List.map_append]
            rfl
          · rw [List.nodup_append]
            exact ⟨hnd, List.nodup_cons.mpr ⟨by simp, List.nodup_nil⟩, fun x hx y hy e => hin (by rw [List.mem_singleton.mp hy] at e; rw [← e]; exact hx)⟩
          · rw [List.length_append, List.length_singleton]
            omega
          · rw [← hiff]
            refine OkN.perm ?_
            rw [List.map_append, List.append_assoc]
            exact List.Perm.append_left _ List.perm_append_comm
    | false =>
      refine iteF ?_
      refine ⟨_, rfl, u, _, _, _, _, rfl, .ty "tuple", dp_ty (le3'.dp hu), kit_ty (kit_tuple e), _, rfl, ?_⟩
      have bad : (∀ es, e = .tuple es → es.length < 2) → Q (.bl false) H3 := fun hb => by
        have q' := q H3 le3'
        have e1 : isRigB d = false := decide_eq_false fun z => by
          have z2 := (hiff.mpr z).1
          rw [leafPL_append, leafPL, leafPL, leafP_else hst hb] at z2
          simp at z2
        rw [e1] at q'
        exact q'
      cases e with
      | tuple es =>
        cases hu with
        | @tup a xs _ hS hA3 =>
        have hl3 := dpAll_length hA3
        refine iteT ⟨_, rfl, a, _, rfl, .inr (le3'.sqt hS), _, _, rfl, rfl, _, rfl, ?_⟩
        by_cases h2 : 2 ≤ es.length
        · have e2 : decide ((((xs.length : Nat) : Int)) ≥ 2) = true := decide_eq_true (by omega)
          rw [e2]
          have hxl : ur.length + xs.length ≤ 2000 := by
            have := sizeL_len dr
            have := sizeL_len es
            have := dpAll_length hAr
            rw [sizeD] at hs1
            omega
          refine iteT ⟨_, rfl, .inl ⟨rfl, _, sql kw3⟩, _, rfl, wt, a, _, _, rfl, rfl, kw3, le3'.sqt hS, sz (by omega), ?_⟩
          refine ⟨sizeL (dr ++ es), by rw [sizeL_last, sizeL_append, sizeD]; omega, ⟨⟨_, nm, ur ++ xs, dr ++ es, rfl, (upd_ne nwn).trans kn3, upd_same, dpAll_append hAr hA3, rfl, ?_, ?_, hnd, hn6, ?_⟩, le3'.mut hwH⟩⟩
          · rw [sizeL_append]
            rw [sizeD] at hs1
            omega
          · rw [goodL_all]
            intro x hx
            rcases List.mem_append.mp hx with hx | hx
            · exact goodL_mem hgr hx
            · rw [goodD] at hge
              exact goodL_mem hge hx
          · rw [← hiff, leafPL_append, leafPL_append, leafPL, leafPL, leafP_node hst h2, List.append_nil]
        · have e2 : decide ((((xs.length : Nat) : Int)) ≥ 2) = false := decide_eq_false (by omega)
          rw [e2]
          exact iteF (bad fun es' he => by cases he; omega)
      | int i => exact iteF (bad fun es' he => by cases he)
      | bool b => exact iteF (bad fun es' he => by cases he)
      | none => exact iteF (bad fun es' he => by cases he)
      | list xs => exact iteF (bad fun es' he => by cases he)
      | str xs => exact iteF (bad fun es' he => by cases he)
      | dict kvs => exact iteF (bad fun es' he => by cases he)
end
end Wr

set_option Elab.async false
set_option linter.all false
set_option maxRecDepth 100000
set_option maxHeartbeats 2000000
namespace Wr
open PySem PySem.Spec PyProof.Rows L2
/-! ### rigs as good data -/
mutual
theorem T.size : ∀ t : T, t.Ok → sizeD t.data + 1 ≤ 5 * t.leaves.length
  | .leaf n p w, _ => by simp [T.data, T.leaves, sizeD, Wr.sizeL]
  | .node ts, h => by
    rw [T.Ok] at h
    have q := T.sizeL ts h.2
    rw [T.data, T.leaves, sizeD]
    omega
theorem T.sizeL : ∀ ts : List T, T.OkL ts → Wr.sizeL (T.dataL ts) + ts.length ≤ 5 * (T.leavesL ts).length
  | [], _ => by simp [T.dataL, T.leavesL, Wr.sizeL]
  | t :: r, h => by
    rw [T.OkL] at h
    have q1 := T.size t h.1
    have q2 := T.sizeL r h.2
    rw [T.dataL, T.leavesL, Wr.sizeL, List.length_append, List.length_cons]
    omega
end
theorem six_good : ∀ z ∈ sixN, goodD (.str z) = true := by
  intro z hz
  rw [goodD]
  revert z
  decide +kernel
mutual
theorem T.goodT : ∀ t : T, (∀ x ∈ t.leaves, LeafOk x) → goodD t.data = true
  | .leaf n p w, h => by
    have q := (h (n, p, w) (by simp [T.leaves])).1
    have g := six_good n q
    rw [goodD] at g
    simp only [T.data, goodD, Wr.goodL, g, Bool.and_true]
  | .node ts, h => by
    rw [T.data, goodD]
    exact T.goodTL ts (by rw [T.leaves] at h; exact h)
theorem T.goodTL : ∀ ts : List T, (∀ x ∈ T.leavesL ts, LeafOk x) → Wr.goodL (T.dataL ts) = true
  | [], _ => by simp [T.dataL, Wr.goodL]
  | t :: r, h => by
    rw [T.leavesL] at h
    rw [T.dataL, Wr.goodL, T.goodT t fun x hx => h x (List.mem_append_left _ hx), T.goodTL r fun x hx => h x (List.mem_append_right _ hx)]
    rfl
end
mutual
theorem T.goodN : ∀ t : T, (∀ x ∈ t.leaves, goodD (.str x.1) = true) → goodD t.data = true
  | .leaf n p w, h => by
    have g := h (n, p, w) (by simp [T.leaves])
    rw [goodD] at g
    simp only [T.data, goodD, Wr.goodL, g, Bool.and_true]
  | .node ts, h => by
    rw [T.data, goodD]
    exact T.goodNL ts (by rw [T.leaves] at h; exact h)
theorem T.goodNL : ∀ ts : List T, (∀ x ∈ T.leavesL ts, goodD (.str x.1) = true) → Wr.goodL (T.dataL ts) = true
  | [], _ => by simp [T.dataL, Wr.goodL]
  | t :: r, h => by
    rw [T.leavesL] at h
    rw [T.dataL, Wr.goodL, T.goodN t fun x hx => h x (List.mem_append_left _ hx), T.goodNL r fun x hx => h x (List.mem_append_right _ hx)]
    rfl
end
end Wr

set_option Elab.async false
set_option linter.all false
set_option maxRecDepth 100000
set_option maxHeartbeats 2000000
namespace Wr
open PySem PySem.Spec PyProof.Rows L2
/-! ### orders as data -/
/-- some loads as data -/
def ordD (o : List Int) : PyData := .tuple (o.map .int)
theorem ord_inj {o p : List Int} (h : ordD o = ordD p) : o = p := (List.map_inj_right fun a b e => PyData.int.inj e).mp (PyData.tuple.inj h)
theorem keyL_ints : ∀ o : List Int, D3.keyL (o.map .int) = true
  | [] => rfl
  | x :: r => by rw [List.map_cons, D3.keyL, keyL_ints r]; rfl
theorem keyD_ord (o : List Int) : D3.keyD (ordD o) = true := by
  unfold ordD
  rw [D3.keyD]
  exact keyL_ints o
theorem nkdepth_ord (o : List Int) : (D3.nk (ordD o)).depth ≤ 8 := by
  have e : ∀ o : List Int, NestedKey.depthAll (D3.nkL (o.map .int)) = 0 := fun o => by
    induction o with
    | nil => simp [D3.nkL, NestedKey.depthAll]
    | cons x r ih => simp [D3.nkL, D3.nk, NestedKey.depthAll, NestedKey.depth, ih]
  unfold ordD
  rw [D3.nk, NestedKey.depth, e]
  decide
/-- the entries: one for each of these orders -/
def OrdsAt (H : Hp) (xs : List D3.Ent) (os : List (List Int)) : Prop := xs.map (·.1) = os.map ordD ∧ ∀ x ∈ xs, ∃ o, x.1 = ordD o ∧ D3.TupN H x.2.1 (o.map V.int)
theorem OrdsAt.len {H : Hp} {xs : List D3.Ent} {os : List (List Int)} (h : OrdsAt H xs os) : xs.length = os.length := by
  have := congrArg List.length h.1
  rw [List.length_map, List.length_map] at this
  exact this
theorem OrdsAt.le {H H' : Hp} {xs : List D3.Ent} {os : List (List Int)} (l : Le H H') (h : OrdsAt H xs os) : OrdsAt H' xs os := ⟨h.1, fun x hx => let ⟨o, e, z⟩ := h.2 x hx; ⟨o, e, tupN_le l z⟩⟩
theorem ints_dp {K : PySem.W.Frag} {H : Hp} : ∀ o : List Int, DpAll K H (o.map V.int) (o.map PyData.int)
  | [] => .nil
  | x :: r => .cons (.int x) (ints_dp r)
theorem tupN_key {K : PySem.W.Frag} {H : Hp} {p : Addr} {o : List Int} (h : D3.TupN H p (o.map V.int)) : D3.KeyOk K H (ordD o) p := ⟨.tup (tupN_sq h) (ints_dp o), keyD_ord o, nkdepth_ord o⟩
theorem OrdsAt.keys {K : PySem.W.Frag} {H : Hp} {xs : List D3.Ent} {os : List (List Int)} (h : OrdsAt H xs os) : D3.KeysOk K H xs := fun x hx => by
  obtain ⟨o, e, z⟩ := h.2 x hx
  rw [e]
  exact tupN_key z
theorem alike_ints : ∀ o p : List Int, PySem.W.alikeAll (o.map PyData.int) (p.map PyData.int) = true
  | [], [] => by simp [PySem.W.alikeAll]
  | [], _ :: _ => by simp [PySem.W.alikeAll]
  | _ :: _, [] => by simp [PySem.W.alikeAll]
  | x :: r, y :: r' => by
    rw [List.map_cons, List.map_cons, PySem.W.alikeAll, alike_ints r r']
    simp [PySem.W.alike]
theorem alike_ord (o p : List Int) : PySem.W.alike (ordD o) (ordD p) = true := by simp [ordD, PySem.W.alike, alike_ints]
theorem depth_ord (o : List Int) : (ordD o).depth ≤ 60 := by
  have e : ∀ l : List Int, PyData.depthAll (l.map .int) = 0 := fun l => by
    induction l with
    | nil => simp [PyData.depthAll]
    | cons x r ih => simp [PyData.depthAll, PyData.depth, ih]
  simp [ordD, PyData.depth, e]
def addO (os : List (List Int)) (o : List Int) : List (List Int) := if o ∈ os then os else os ++ [o]
theorem addO_mem {os : List (List Int)} {o p : List Int} : p ∈ addO os o ↔ p ∈ os ∨ p = o := by
  unfold addO
  split
  · rename_i h
    exact ⟨.inl, fun z => z.elim id fun z => by rw [z]; exact h⟩
  · rw [List.mem_append, List.mem_singleton]
theorem addO_len (os : List (List Int)) (o : List Int) : (addO os o).length ≤ os.length + 1 := by
  unfold addO
  split
  · omega
  · rw [List.length_append]; exact Nat.le_refl _
theorem addO_nd {os : List (List Int)} {o : List Int} (h : os.Nodup) : (addO os o).Nodup := by
  unfold addO
  split
  · exact h
  · rename_i hk
    exact List.nodup_append.mpr ⟨h, List.nodup_cons.mpr ⟨by simp, List.nodup_nil⟩, fun x hx y hy e => hk (by rw [← List.mem_singleton.mp hy, ← e]; exact hx)⟩
theorem OrdsAt.put {H : Hp} {xs : List D3.Ent} {os : List (List Int)} {o : List Int} {b : Addr} {v : V} (h : OrdsAt H xs os) (hb : D3.TupN H b (o.map V.int)) : OrdsAt H (D3.putX xs (ordD o) b v) (addO os o) := by
  have iff : (xs.any fun x => decide (D3.nk x.1 = D3.nk (ordD o))) = true ↔ o ∈ os := by
    rw [List.any_eq_true]
    constructor
    · rintro ⟨x, hx, e⟩
      obtain ⟨p, e1, _⟩ := h.2 x hx
      have e := of_decide_eq_true e
      rw [e1] at e
      have : p = o := ord_inj (D3.nk_inj (keyD_ord p) (keyD_ord o) e)
      have hm : x.1 ∈ xs.map (·.1) := List.mem_map.mpr ⟨x, hx, rfl⟩
      rw [h.1, e1, this] at hm
      obtain ⟨q, hq, e2⟩ := List.mem_map.mp hm
      rw [← ord_inj e2]
      exact hq
    · intro hm
      have : ordD o ∈ xs.map (·.1) := by rw [h.1]; exact List.mem_map.mpr ⟨o, hm, rfl⟩
      obtain ⟨x, hx, e⟩ := List.mem_map.mp this
      exact ⟨x, hx, decide_eq_true (by rw [e])⟩
  unfold D3.putX addO
  by_cases c : o ∈ os
  · rw [if_pos (iff.mpr c), if_pos c]
    refine ⟨?_, fun x hx => ?_⟩
    · rw [← h.1, List.map_map]
      refine List.map_congr_left fun x _ => ?_
      show (if _ then _ else _ : D3.Ent).1 = x.1
      split <;> rfl
    · obtain ⟨y, hy, rfl⟩ := List.mem_map.mp hx
      obtain ⟨p, e1, e2⟩ := h.2 y hy
      refine ⟨p, ?_, ?_⟩
      · show (if _ then _ else _ : D3.Ent).1 = _
        split <;> exact e1
      · show D3.TupN H (if _ then _ else _ : D3.Ent).2.1 _
        split <;> exact e2
  · rw [if_neg fun z => c (iff.mp z), if_neg c]
    refine ⟨by rw [List.map_append, List.map_append, h.1]; rfl, fun x hx => ?_⟩
    rcases List.mem_append.mp hx with z | z
    · exact h.2 x z
    · rw [List.mem_singleton.mp z]
      exact ⟨o, rfl, hb⟩
section
variable {K : PySem.W.Frag}
theorem cat_anyF {H : Hp} {a b : Addr} {xs ys : List V} {Q : VK} (h : D3.TupN H a xs) (h2 : D3.TupN H b ys) (hl : xs.length + ys.length ≤ sizeLine) (q : ∀ (p : Addr) (H' : Hp), Le H H' → D3.TupN H' p (xs ++ ys) → Q (.ref p) H') : D3.rCatF K (.ref a) (.ref b) H Q := by
  refine ⟨a, b, xs, ys, rfl, rfl, tupN_sq h, tupN_sq h2, hl, fun e => q b H (Le.refl _) ?_, fun _ e => q a H (Le.refl _) ?_, fun _ _ p o hp ho => q p _ (Le.new hp) ⟨o, ho, upd_same⟩⟩
  · rw [e]
    exact h2
  · rw [e, List.append_nil]
    exact h
theorem alike_ords (os : List (List Int)) : PySem.W.AlikeAll (os.map ordD) := by
  refine ⟨fun x hx y hy => ?_, fun x hx => ?_⟩
  · obtain ⟨a, _, rfl⟩ := List.mem_map.mp hx
    obtain ⟨b, _, rfl⟩ := List.mem_map.mp hy
    exact alike_ord a b
  · obtain ⟨a, _, rfl⟩ := List.mem_map.mp hx
    exact fun z => by unfold ordD at z; cases z
theorem depth_ords : ∀ os : List (List Int), PyData.depthAll (os.map ordD) ≤ 60
  | [] => by simp [PyData.depthAll]
  | o :: r => by
    rw [List.map_cons, PyData.depthAll]
    exact Nat.max_le.mpr ⟨depth_ord o, depth_ords r⟩
theorem ord_dp {H : Hp} {p : Addr} {o : List Int} (h : D3.TupN H p (o.map V.int)) : Dp K H (.ref p) (ordD o) := .tup (tupN_sq h) (ints_dp o)
end
theorem lt_ord (a b : List Int) : PySem.W.dataLt (ordD a) (ordD b) = decide (a < b) := by
  unfold ordD
  rw [PySem.W.dataLt_tuple]
  exact PySem.W.dataLt_ints a b
/-- the smaller one, the first of equal ones -/
def mnO (a b : List Int) : List Int := if PySem.W.dataLt (ordD b) (ordD a) = true then b else a
def LeO (a b : List Int) : Prop := ¬ b < a
theorem LeO.refl (a : List Int) : LeO a a := List.lt_irrefl a
theorem tri_ord : ∀ a b : List Int, a < b ∨ a = b ∨ b < a
  | [], [] => .inr (.inl rfl)
  | [], _ :: _ => .inl (List.nil_lt_cons _ _)
  | _ :: _, [] => .inr (.inr (List.nil_lt_cons _ _))
  | p :: a, q :: b => by
    rcases Int.lt_trichotomy p q with h | h | h
    · exact .inl (List.cons_lt_cons_iff.mpr (.inl h))
    · subst h
      rcases tri_ord a b with z | z | z
      · exact .inl (List.cons_lt_cons_iff.mpr (.inr ⟨rfl, z⟩))
      · exact .inr (.inl (by rw [z]))
      · exact .inr (.inr (List.cons_lt_cons_iff.mpr (.inr ⟨rfl, z⟩)))
    · exact .inr (.inr (List.cons_lt_cons_iff.mpr (.inl h)))
theorem LeO.trans {a b c : List Int} (h1 : LeO a b) (h2 : LeO b c) : LeO a c := fun z => by
  rcases tri_ord a b with h | h | h
  · exact h2 (List.lt_trans z h)
  · exact h2 (by rw [← h]; exact z)
  · exact h1 h
theorem LeO.antisymm {a b : List Int} (h1 : LeO a b) (h2 : LeO b a) : a = b := by
  rcases tri_ord a b with h | h | h
  · exact absurd h h2
  · exact h
  · exact absurd h h1
theorem mnO_eq (a b : List Int) : mnO a b = if b < a then b else a := by
  unfold mnO
  rw [lt_ord]
  by_cases c : b < a
  · rw [if_pos c, if_pos (decide_eq_true c)]
  · rw [if_neg c, if_neg (by rw [decide_eq_false c]; decide)]
theorem mnO_self (a : List Int) : mnO a a = a := by rw [mnO_eq, if_neg (List.lt_irrefl a)]
theorem mnO_left (a b : List Int) : LeO (mnO a b) a := by
  rw [mnO_eq]
  by_cases c : b < a
  · rw [if_pos c]
    exact fun z => List.lt_irrefl a (List.lt_trans z c)
  · rw [if_neg c]
    exact LeO.refl a
theorem mnO_right (a b : List Int) : LeO (mnO a b) b := by
  rw [mnO_eq]
  by_cases c : b < a
  · rw [if_pos c]
    exact LeO.refl b
  · rw [if_neg c]
    exact c
theorem mnO_cases (a b : List Int) : mnO a b = a ∨ mnO a b = b := by
  rw [mnO_eq]
  by_cases c : b < a
  · rw [if_pos c]; exact .inr rfl
  · rw [if_neg c]; exact .inl rfl
theorem leO_snoc (x : Int) : ∀ {a b : List Int}, a.length = b.length → LeO a b → LeO (a ++ [x]) (b ++ [x])
  | [], [], _, _ => LeO.refl _
  | p :: a, q :: b, hl, h => by
    intro z
    rw [List.cons_append, List.cons_append] at z
    rcases List.cons_lt_cons_iff.mp z with c | ⟨c1, c2⟩
    · exact h (List.cons_lt_cons_iff.mpr (.inl c))
    · exact leO_snoc x (by simpa using hl) (fun y => h (List.cons_lt_cons_iff.mpr (.inr ⟨c1, y⟩))) c2
theorem minD_ord (a : List Int) (os : List (List Int)) : PySem.W.minD (ordD a) (os.map ordD) = ordD (os.foldl mnO a) := by
  unfold PySem.W.minD
  induction os generalizing a with
  | nil => rfl
  | cons o r ih =>
    rw [List.map_cons, List.foldl_cons, List.foldl_cons, ← ih]
    congr 1
    unfold mnO
    split <;> rfl
theorem fold_mnO : ∀ (os : List (List Int)) (a : List Int), os.foldl mnO a ∈ a :: os ∧ ∀ o ∈ a :: os, LeO (os.foldl mnO a) o
  | [], a => ⟨List.mem_cons_self, fun o h => by rw [List.mem_singleton.mp h]; exact LeO.refl _⟩
  | b :: r, a => by
    obtain ⟨h1, h2⟩ := fold_mnO r (mnO a b)
    rw [List.foldl_cons]
    refine ⟨?_, fun o h => ?_⟩
    · rcases List.mem_cons.mp h1 with z | z
      · rw [z]
        rcases mnO_cases a b with y | y
        · rw [y]; exact List.mem_cons_self
        · rw [y]; exact List.mem_cons_of_mem _ List.mem_cons_self
      · exact List.mem_cons_of_mem _ (List.mem_cons_of_mem _ z)
    · rcases List.mem_cons.mp h with z | z
      · rw [z]
        exact (h2 _ List.mem_cons_self).trans (mnO_left a b)
      · rcases List.mem_cons.mp z with y | y
        · rw [y]
          exact (h2 _ List.mem_cons_self).trans (mnO_right a b)
        · exact h2 o (List.mem_cons_of_mem _ y)
theorem shp_ord (o : List Int) : SeqAt.shaped (ordD o) = true := (shp_tup (m := 0) (fun d hd => by obtain ⟨x, hx, rfl⟩ := List.mem_map.mp hd; exact shp_int x)).shaped (by decide)
theorem exD_ord (o : List Int) : exD (ordD o) = true := by
  unfold ordD exD
  rw [exDL_all]
  intro d hd
  obtain ⟨x, _, rfl⟩ := List.mem_map.mp hd
  rfl
end Wr

set_option Elab.async false
set_option linter.all false
set_option maxRecDepth 100000
set_option maxHeartbeats 2000000
namespace Wr
open PySem PySem.Spec PyProof.Rows L2
/-! ### the law's trees and the program's: pure -/
theorem nameD_tree (t : T) : nameD t.data = false := by cases t <;> rfl
theorem node_strand (ts : List T) : strandD (.tuple (T.dataL ts)) = false := by
  by_cases h : ts.length = 3
  · match ts, h with
    | [a, b, c], _ =>
      show ((nameD a.data && betwD b.data 1 99) && betwD c.data 0 20) = false
      rw [nameD_tree]
      rfl
  · exact strandD_len (by rw [T.dataL_map, List.length_map]; exact h)
mutual
theorem leafP_tree : ∀ t : T, t.Ok → (∀ l ∈ t.leaves, strandD (leafD l) = true) → leafP t.data = (t.leaves.map (·.1)).map some
  | .leaf n p w, _, h => leafP_strand (h (n, p, w) (by rw [T.leaves]; exact List.mem_singleton.mpr rfl))
  | .node ts, ho, h => by
    unfold T.Ok at ho
    rw [T.data, leafP_node (node_strand ts) (by rw [T.dataL_map, List.length_map]; exact ho.1), T.leaves]
    exact leafPL_tree ts ho.2 (by rw [T.leaves] at h; exact h)
theorem leafPL_tree : ∀ ts : List T, T.OkL ts → (∀ l ∈ T.leavesL ts, strandD (leafD l) = true) → leafPL (T.dataL ts) = ((T.leavesL ts).map (·.1)).map some
  | [], _, _ => by rw [T.dataL, T.leavesL, leafPL]; rfl
  | t :: r, ho, h => by
    unfold T.OkL at ho
    rw [T.leavesL] at h
    rw [T.dataL, T.leavesL, leafPL, List.map_append, List.map_append, leafP_tree t ho.1 fun l hl => h l (List.mem_append_left _ hl), leafPL_tree r ho.2 fun l hl => h l (List.mem_append_right _ hl)]
end
theorem rigB_tree {t : T} (ho : t.Ok) (h6 : t.leaves.length ≤ 6) (nd : t.names.Nodup) (h : ∀ l ∈ t.leaves, strandD (leafD l) = true) : isRigB t.data = true := by
  refine decide_eq_true ?_
  rw [leafP_tree t ho h]
  refine ⟨fun z => ?_, by rw [List.length_map, List.length_map]; exact h6, List.Pairwise.map some (fun a b h e => h (Option.some.inj e)) nd⟩
  obtain ⟨x, _, e⟩ := List.mem_map.mp z
  cases e
/-! sorted leaves -/
def leL (a b : Str × Int × Int) : Bool := D2.leD false (leafD a) (leafD b)
theorem leL_ne {a b : Str × Int × Int} (h : a.1 ≠ b.1) : leL a b = true ↔ LeS a.1 b.1 := by
  unfold leL D2.leD
  rw [PySem.W.dataLe_eq]
  show (!PySem.W.dataLt (.tuple [.str b.1, .int b.2.1, .int b.2.2]) (.tuple [.str a.1, .int a.2.1, .int a.2.2])) = true ↔ _
  rw [PySem.W.dataLt_tuple, PySem.W.dataLt_cons (by rfl), if_neg (by
    rw [show PyData.eqv (.str b.1) (.str a.1) = false from Bool.eq_false_iff.mpr fun z => h ((PyData.str.inj ((eqv_ex _ _ rfl rfl).mp z)).symm)]
    decide), PySem.W.dataLt_str]
  rw [Bool.not_eq_true', decide_eq_false_iff_not]
  exact Iff.rfl
theorem sort_leaves {ps qs : List (Str × Int × Int)} (nd : (ps.map (·.1)).Nodup) (p : qs.Perm ps) (h : Asc (qs.map (·.1))) : (ps.map leafD).mergeSort (D2.leD false) = qs.map leafD := by
  rw [← PySem.W.sort_maps (r := leL) (s := D2.leD false) leafD fun a _ b _ => rfl]
  congr 1
  have same : ∀ a ∈ qs, ∀ b ∈ qs, a.1 = b.1 → a = b := by
    have nq : (qs.map (·.1)).Nodup := (p.map _).nodup_iff.mpr nd
    have gen : ∀ l : List (Str × Int × Int), (l.map (·.1)).Nodup → ∀ a ∈ l, ∀ b ∈ l, a.1 = b.1 → a = b := fun l => by
      induction l with
      | nil => exact fun _ a ha => by cases ha
      | cons c r ih =>
        intro hn a ha b hb e
        rw [List.map_cons, List.nodup_cons] at hn
        rcases List.mem_cons.mp ha with z | z <;> rcases List.mem_cons.mp hb with y | y
        · rw [z, y]
        · exact absurd (List.mem_map.mpr ⟨b, y, by rw [← e, z]⟩) hn.1
        · exact absurd (List.mem_map.mpr ⟨a, z, by rw [e, y]⟩) hn.1
        · exact ih hn.2 a z b y e
    exact gen qs nq
  have pw : qs.Pairwise fun a b => leL a b = true := by
    have nq : (qs.map (·.1)).Nodup := (p.map _).nodup_iff.mpr nd
    have h1 : qs.Pairwise fun a b => LeS a.1 b.1 := List.pairwise_map.mp h
    have h2 : qs.Pairwise fun a b => a.1 ≠ b.1 := List.pairwise_map.mp nq
    exact (h1.and h2).imp fun z => (leL_ne z.2).mpr z.1
  have pm := List.mergeSort_perm ps leL
  refine List.Perm.eq_of_pairwise (le := fun a b => leL a b = true) (fun a b ha hb h1 h2 => ?_) ?_ pw (pm.trans p.symm)
  · have ha' := (pm.trans p.symm).mem_iff.mp ha
    by_cases e : a.1 = b.1
    · exact same a ha' b hb e
    · exact absurd (LeS.antisymm ((leL_ne e).mp h1) ((leL_ne (Ne.symm e)).mp h2)) e
  · exact PySem.W.sort_pairwise (show PySem.W.TotalLe leL from PySem.W.sortLe_total (listOrd itemOrd) false fun s => PySem.W.keyToks (leafD s)) _
theorem alike_leaves (ps : List (Str × Int × Int)) : PySem.W.AllAlike (ps.map leafD) := fun d hd d' hd' => by
  obtain ⟨x, hx, rfl⟩ := List.mem_map.mp hd
  obtain ⟨y, hy, rfl⟩ := List.mem_map.mp hd'
  rfl
theorem sortable_leaves (ps : List (Str × Int × Int)) : PySem.W.Sortable (ps.map leafD) := PySem.W.Sortable.tuples fun b => ⟨_, _, rfl⟩
theorem depth_leaves (ps : List (Str × Int × Int)) : ∀ d ∈ ps.map leafD, d.depth ≤ 60 := fun d hd => by
  obtain ⟨x, _, rfl⟩ := List.mem_map.mp hd
  simp [leafD, leafT, T.data, PyData.depth, PyData.depthAll]
/-! both enumerations -/
theorem fuel4 : ∀ n, n < 5 → eqKL (lawB Sk.lf Sk.nd 4 (List.range n)) (lawK n) = true := by decide +kernel
mutual
def Sk.ok : Sk → Bool
  | .lf _ => true
  | .nd ts => decide (2 ≤ ts.length) && Sk.okL ts
def Sk.okL : List Sk → Bool
  | [] => true
  | t :: r => t.ok && Sk.okL r
end
theorem law_okk : ∀ n, n < 5 → (lawK n).all Sk.ok = true := by decide +kernel
mutual
theorem Sk.ok_toT (f : Nat → Str × Int × Int) : ∀ s : Sk, s.ok = true → (s.toT f).Ok
  | .lf i, _ => by
    rw [Sk.toT, leafT]
    unfold T.Ok
    trivial
  | .nd ts, h => by
    rw [Sk.ok, Bool.and_eq_true] at h
    rw [Sk.toT]
    unfold T.Ok
    refine ⟨?_, Sk.okL_toT f ts h.2⟩
    rw [Sk.toTL_map, List.length_map]
    exact of_decide_eq_true h.1
theorem Sk.okL_toT (f : Nat → Str × Int × Int) : ∀ ts : List Sk, Sk.okL ts = true → T.OkL (Sk.toTL f ts)
  | [], _ => by
    rw [Sk.toTL]
    unfold T.OkL
    trivial
  | t :: r, h => by
    rw [Sk.okL, Bool.and_eq_true] at h
    rw [Sk.toTL]
    unfold T.OkL
    exact ⟨Sk.ok_toT f t h.1, Sk.okL_toT f r h.2⟩
end
structure Both (S U : List T) : Prop where
  to : ∀ t ∈ S, ∃ u ∈ U, DivE t u
  fro : ∀ u ∈ U, ∃ t ∈ S, DivE t u
  ok : ∀ u ∈ U, u.Ok
  len : U.length ≤ 26
theorem both_trees (l : Str × Int × Int) (r : List (Str × Int × Int)) (h1 : 1 ≤ r.length) (h3 : r.length ≤ 3) : Both (stgT (leafT l) (r.map leafT)) (lawB leafT T.node 4 (l :: r)) := by
  obtain ⟨f, e⟩ := as_range l r
  have n5 : (l :: r).length < 5 := by rw [List.length_cons]; omega
  have n2 : 2 ≤ (l :: r).length := by rw [List.length_cons]; omega
  have nr : (l :: r).length = r.length + 1 := rfl
  generalize (l :: r).length = n at e n5 n2 nr
  have er : List.range n = 0 :: (List.range n).drop 1 := by
    have : List.range n = List.range' 0 n := List.range_eq_range'
    rw [nr, List.range_succ_eq_map]
    rfl
  have e2 := e
  rw [er, List.map_cons] at e2
  obtain ⟨el, er2⟩ := List.cons.inj e2
  have eS : stgT (leafT l) (r.map leafT) = (progK n).map (Sk.toT f) := by
    rw [el, er2]
    exact stgK_toT f 0 _
  have eU : lawB leafT T.node 4 (l :: r) = (lawK n).map (Sk.toT f) := by
    rw [e, lawB_toT, eqKL_eq (fuel4 n n5)]
  rw [eS, eU]
  refine ⟨fun t ht => ?_, fun u hu => ?_, fun u hu => ?_, by rw [List.length_map]; exact lawK_len n n5⟩
  · obtain ⟨a, ha, rfl⟩ := List.mem_map.mp ht
    obtain ⟨b, hb, g⟩ := prog_law n5 n2 ha
    exact ⟨_, List.mem_map.mpr ⟨b, hb, rfl⟩, same_div f g⟩
  · obtain ⟨b, hb, rfl⟩ := List.mem_map.mp hu
    obtain ⟨a, ha, g⟩ := law_prog n5 n2 hb
    exact ⟨_, List.mem_map.mpr ⟨a, ha, rfl⟩, same_div f g⟩
  · obtain ⟨b, hb, rfl⟩ := List.mem_map.mp hu
    exact Sk.ok_toT f b (List.all_eq_true.mp (law_okk n n5) b hb)
theorem rc_non {t : T} {L : Int} : RcAt t L .non ↔ RepN t L := by
  constructor
  · intro h
    rcases h with ⟨_, n⟩ | ⟨c, e, _⟩
    · exact n
    · cases e
  · exact fun h => .inl ⟨rfl, h⟩
theorem rc_int {t : T} {L : Int} {c : Nat} : RcAt t L (.int (c : Nat)) ↔ RepS t L c := by
  constructor
  · intro h
    rcases h with ⟨e, _⟩ | ⟨d, e, s⟩
    · cases e
    · have : c = d := by
        have := V.int.inj e
        omega
      exact this ▸ s
  · exact fun h => .inr ⟨c, rfl, h⟩
/-- the largest of the law's counts is the program's count -/
theorem best_max {S U : List T} {L : Int} {x : V} {M : Nat} (hb : Both S U) (nd : ∀ t ∈ S, t.names.Nodup) (hx : BtR S L x) (hM : ∃ u ∈ U, RqAt u L M) (hmax : ∀ u ∈ U, ∃ m, RqAt u L m ∧ m ≤ M) : (x = .non ∧ M = 120) ∨ x = .int (M : Nat) := by
  have tr : ∀ {t u : T}, t ∈ S → DivE t u → ∀ y, RcAt u L y ↔ RcAt t L y := fun ht d y => sim_rc1 (div_sim (nd _ ht) d)
  rcases hx with ⟨e, t, ht, rn⟩ | ⟨c, e, ⟨t, ht, rs⟩, hall⟩
  · refine .inl ⟨e, ?_⟩
    obtain ⟨u, hu, d⟩ := hb.to t ht
    obtain ⟨m, rq, mM⟩ := hmax u hu
    have := rq.2.1 (rc_non.mp ((tr ht d _).mpr (rc_non.mpr rn)))
    obtain ⟨u2, _, q2⟩ := hM
    have := q2.1
    omega
  · refine .inr ?_
    rw [e]
    obtain ⟨u, hu, d⟩ := hb.to t ht
    obtain ⟨m, rq, mM⟩ := hmax u hu
    have e1 := rq.2.2 c (rc_int.mp ((tr ht d _).mpr (rc_int.mpr rs)))
    obtain ⟨u2, hu2, q2⟩ := hM
    obtain ⟨t2, ht2, d2⟩ := hb.fro u2 hu2
    obtain ⟨c2, hc2, rs2⟩ := hall t2 ht2
    have e2 := q2.2.2 c2 (rc_int.mp ((tr ht2 d2 _).mpr (rc_int.mpr rs2)))
    have : c = M := by omega
    rw [this]
end Wr

set_option Elab.async false
set_option linter.all false
set_option maxRecDepth 100000
set_option maxHeartbeats 2000000
namespace D3
open PySem PySem.Spec PyProof.Rows L2 Wr
variable {X : Cx} {pos : Pos}
/-- a tuple's display, told by what stands afterwards alone -/
def tTupN (t : TA) : TE := fun σ H Q => t σ H fun xs H1 => xs.length ≤ sizeLine ∧ ∀ (p : Addr) (J : Hp), Le H1 J → TupN J p xs → Q (.ref p) J
theorem pe_tupL {es : List Expr} {t : TA} {x1} (h : PA X es t) : PE X (.Tuple es x1 pos) (tTupN t) := by
  refine ⟨fun pins s σ H Q I hq => ?_⟩
  refine wpAny_Tuple_spliced (thn (h.run pos pins s σ H _ I hq) fun us s1 ⟨xs, H1, I1, r, z, q⟩ => ⟨by rw [← r.length]; exact z, ?_⟩)
  have hf : H1 s1.heap.objs.size = none := I1.hok.fresh (Nat.le_refl _)
  exact ⟨.ref s1.heap.objs.size, _, I1.laid (t' := s1.toks) (o := .frz { cls := .type "tuple", data := .seq us.toArray } (.tup xs)) (fun b u e => Heap.get?_push_of_some _ e) (Nat.le_refl _) ⟨Heap.get?_push_size _ rfl, z, us, r, ⟨_, Heap.get?_push_size _ rfl, rfl, _, rfl⟩⟩, rfl, q _ _ (Le.new hf) ⟨_, rfl, upd_same⟩⟩
/-- the same, with all that stood before -/
def tTupE (t : TA) : TE := fun σ H Q => t σ H fun xs H1 => xs.length ≤ sizeLine ∧ ∀ (p : Addr) (J : Hp), Le H1 J → (∀ b o, H1 b = some o → J b = some o) → TupN J p xs → Q (.ref p) J
theorem pe_tupE {es : List Expr} {t : TA} {x1} (h : PA X es t) : PE X (.Tuple es x1 pos) (tTupE t) := by
  refine ⟨fun pins s σ H Q I hq => ?_⟩
  refine wpAny_Tuple_spliced (thn (h.run pos pins s σ H _ I hq) fun us s1 ⟨xs, H1, I1, r, z, q⟩ => ⟨by rw [← r.length]; exact z, ?_⟩)
  have hf : H1 s1.heap.objs.size = none := I1.hok.fresh (Nat.le_refl _)
  exact ⟨.ref s1.heap.objs.size, _, I1.laid (t' := s1.toks) (o := .frz { cls := .type "tuple", data := .seq us.toArray } (.tup xs)) (fun b u e => Heap.get?_push_of_some _ e) (Nat.le_refl _) ⟨Heap.get?_push_size _ rfl, z, us, r, ⟨_, Heap.get?_push_size _ rfl, rfl, _, rfl⟩⟩, rfl, q _ _ (Le.new hf) (fun b o e => by rw [upd_ne (ne_of_none e hf)]; exact e) ⟨_, rfl, upd_same⟩⟩
end D3

set_option Elab.async false
set_option linter.all false
set_option maxRecDepth 100000
set_option maxHeartbeats 2000000
namespace Wr
open PySem PySem.Spec PyProof.Rows L2
/-! ### tables set aside, told more closely: nothing else is touched when one comes back -/
def framedE (P : Addr) (q : Str) (sp : Sp) : Sp := fun vs H Q E => LTab H P q ∧ sp vs (aside P H) (fun v H2 => ∀ H3, Le H2 H3 → (∀ b, b ≠ P → H3 b = H2 b) → (Le (aside P H) H2 → Le H H3 ∧ LTab H3 P q) → Q v H3) E
theorem FnOk.frameE {P : Program} {w : World} {K : PySem.W.Frag} {mg : Str → Option Value} {base : Heap} {k : Nat} {f : Addr} {fd : FuncData} {ps : List Str} {sp : Sp} (F : FnOk P w K mg base CX0 k f fd ps sp) (B : Addr) (q : Str) : FnOk P w K mg base CX0 k f fd ps (framedE B q sp) := by
  refine ⟨fun vs H Q E h => F.len _ _ _ _ h.2, fun A outer s H args us vs Q E hr e0 hb hv h => ?_⟩
  obtain ⟨⟨qs, hit, htr, hcd⟩, h⟩ := h
  have nt : ∀ b o, H b = some o → o ≠ .tbl qs → b ≠ B := fun b o e n z => by
    rw [z, hit] at e
    exact n (Option.some.inj e).symm
  have hok2 : HOk P w (aside B H) s.heap := fun b o e => by
    have nb : b ≠ B := fun z => by rw [z, aside_at] at e; cases e
    rw [aside_ne nb] at e
    refine (e0.hok b o e).stay (fun _ _ _ q => q) (fun c q => ?_) fun c ys q => ?_
    · rw [aside_ne (nt c _ q (by intro z; cases z))]
      exact q
    · rw [aside_ne (nt c _ q (by intro z; cases z))]
      exact q
  have e2 : Env0 P w K mg base A outer s (aside B H) := by
    refine ⟨e0.frames, e0.mod, fun b o e => ⟨(e0.bs b o e).1, ?_⟩, e0.bsz, e0.funs, fun b hb => ?_, hok2, e0.bare⟩
    · by_cases z : b = B
      · rw [z]; exact aside_at
      · rw [aside_ne z]; exact (e0.bs b o e).2
    · by_cases z : b = B
      · rw [z]; exact aside_at
      · rw [aside_ne z]; exact e0.frf b hb
  have itf : B ∉ frs outer := fun z => by
    have := e0.frf B z
    rw [hit] at this
    cases this
  refine codeAny_mono (F.run A outer s (aside B H) args us vs _ E hr e2 hb hv h) fun r s1 hr1 => ?_
  match r, hr1 with
  | .ok (.ret u), hr1 =>
    obtain ⟨v, H2, os, bare, un, hok', rv, qq⟩ := hr1
    have gi : s.heap.get? B = some { cls := .none, data := .fields qs } := e0.hok B _ hit
    have free : H2 B = none := un.free B _ gi aside_at (by simp)
    have stays : s1.heap.get? B = _ := un.keep B _ gi aside_at itf (by simp)
    have back : ∀ b, H b = none → aside B H b = none := fun b e => by
      by_cases z : b = B
      · rw [z]; exact aside_at
      · rw [aside_ne z]; exact e
    have nit : ∀ b, H b = none → b ≠ B := fun b e z => by rw [z, hit] at e; cases e
    have fin : Le (aside B H) H2 → Le H (upd H2 B (.tbl qs)) ∧ LTab (upd H2 B (.tbl qs)) B q := fun l => by
      refine ⟨⟨fun b o e n => ?_, fun C hC => ?_, fun b e => ?_⟩, qs, upd_same, htr, fun p cv hp => ?_⟩
      · have nb := nt b o e (n qs)
        rw [upd_ne nb]
        exact l.keep b o (by rw [aside_ne nb]; exact e) n
      · by_cases z : C = B
        · rw [z]
          exact ⟨qs, upd_same, htr⟩
        · obtain ⟨rs, e1, e2⟩ := l.tab C (tab_aside z hC)
          exact ⟨rs, by rw [upd_ne z]; exact e1, e2⟩
      · by_cases z : b = B
        · rw [z, upd_same] at e
          cases e
        · rw [upd_ne z] at e
          have := l.dom b e
          rw [aside_ne z] at this
          exact this
      · obtain ⟨c, e1, e2⟩ := hcd p cv hp
        have nb := nt c _ e2 (LamX.codeO_ne qs)
        refine ⟨c, e1, ?_⟩
        rw [upd_ne nb]
        exact l.keep c _ (by rw [aside_ne nb]; exact e2) not_code
    refine ⟨v, upd H2 B (.tbl qs), os, bare, ⟨fun b o g e => un.keep b o g (back b e), fun b o g e => un.slot b o g (back b e), fun b o g e x => ?_, un.there, fun b ys e => ?_, fun b o u e => ?_, fun b rs e => ?_⟩, fun b o e => ?_, rv, qq _ (Le.new free) (fun _ nb => upd_ne nb) fin⟩
    · rw [upd_ne (nit b e)]
      exact un.free b o g (back b e) x
    · have nb := nt b _ e (by intro z; cases z)
      rw [upd_ne nb]
      exact un.tups b ys (by rw [aside_ne nb]; exact e)
    · have nb := nt b _ e (by intro z; cases z)
      rw [upd_ne nb]
      exact un.frzs b o u (by rw [aside_ne nb]; exact e)
    · by_cases z : b = B
      · rw [z, hit] at e
        cases e
        rw [z]
        exact ⟨#[], by rw [upd_same, Array.append_empty]⟩
      · rw [upd_ne z]
        exact un.tbls b rs (by rw [aside_ne z]; exact e)
    · by_cases z : b = B
      · rw [z, upd_same] at e
        cases e
        rw [z]
        exact stays
      · rw [upd_ne z] at e
        refine (hok' b o e).stay (fun _ _ _ g => g) (fun c g => ?_) fun c ys g => ?_
        · rw [upd_ne (ne_of_none g free)]
          exact g
        · rw [upd_ne (ne_of_none g free)]
          exact g
end Wr

set_option Elab.async false
set_option linter.all false
set_option maxRecDepth 100000
set_option maxHeartbeats 2000000
namespace Wr
open PySem PySem.Spec PyProof.Rows L2
/-! ### the law of best trees -/
def nm4 : List Str := [Str.ofString "ax", Str.ofString "bo", Str.ofString "cy", Str.ofString "dot"]
theorem nm4_asc : Asc nm4 := by
  show List.Pairwise (fun a b : Str => ¬ b.cps.toList < a.cps.toList) nm4
  decide +kernel
theorem nm4_nd : nm4.Nodup := by decide +kernel
theorem nm4_ok : ∀ z ∈ nm4, nameB z = true ∧ PyData.strOk z = true ∧ decide (z.length ≤ 1000) = true := by decide +kernel
structure LfsP (nms : List Str) (ls : List (Str × Int × Int)) : Prop where
  nm : ls.map (·.1) = nms
  bd : ∀ l ∈ ls, 1 ≤ l.2.1 ∧ l.2.1 ≤ 99 ∧ 0 ≤ l.2.2 ∧ l.2.2 ≤ 20
theorem LfsP.snoc {nms : List Str} {ls : List (Str × Int × Int)} (h : LfsP nms ls) {n : Str} {p u : Int} (p1 : 1 ≤ p) (p2 : p ≤ 99) (u1 : 0 ≤ u) (u2 : u ≤ 20) : LfsP (nms ++ [n]) (ls ++ [(n, p, u)]) := by
  refine ⟨by rw [List.map_append, h.nm]; rfl, fun l hl => ?_⟩
  rcases List.mem_append.mp hl with z | z
  · exact h.bd l z
  · rw [List.mem_singleton.mp z]
    exact ⟨p1, p2, u1, u2⟩
section
variable {m : Nat} {ls : List (Str × Int × Int)}
theorem LfsP.mem4 (h : LfsP (nm4.take m) ls) {l : Str × Int × Int} (hl : l ∈ ls) : l.1 ∈ nm4 := by
  have : l.1 ∈ nm4.take m := by
    rw [← h.nm]
    exact List.mem_map.mpr ⟨l, hl, rfl⟩
  exact List.mem_of_mem_take this
theorem LfsP.nd (h : LfsP (nm4.take m) ls) : (ls.map (·.1)).Nodup := by
  rw [h.nm]
  exact nm4_nd.sublist (List.take_sublist _ _)
theorem LfsP.asc (h : LfsP (nm4.take m) ls) : Asc (ls.map (·.1)) := by
  rw [h.nm]
  exact List.Pairwise.sublist (List.take_sublist _ _) nm4_asc
theorem LfsP.len (h : LfsP (nm4.take m) ls) : ls.length = min m 4 := by
  have := congrArg List.length h.nm
  rw [List.length_map, List.length_take] at this
  exact this
theorem LfsP.strand (h : LfsP (nm4.take m) ls) : ∀ l ∈ ls, strandD (leafD l) = true := fun l hl => by
  obtain ⟨a, b, c, d⟩ := h.bd l hl
  show ((nameB l.1 && (decide (1 ≤ l.2.1) && decide (l.2.1 ≤ 99))) && (decide (0 ≤ l.2.2) && decide (l.2.2 ≤ 20))) = true
  rw [(nm4_ok _ (h.mem4 hl)).1, decide_eq_true a, decide_eq_true b, decide_eq_true c, decide_eq_true d]
  rfl
theorem LfsP.ok (h : LfsP (nm4.take m) ls) : LsOk ls where
  len := by rw [h.len]; omega
  nd := h.nd
  lb := fun t p l hl => by
    obtain ⟨a, b, c, d⟩ := h.bd l (p.mem_iff.mp hl)
    exact ⟨by omega, by omega, by omega, by omega⟩
  sok := fun x hx => (nm4_ok _ (h.mem4 hx)).2.1
theorem LfsP.good (h : LfsP (nm4.take m) ls) {t : T} (p : t.leaves.Perm ls) : goodD t.data = true := T.goodN t fun x hx => by
  have z := nm4_ok _ (h.mem4 (p.mem_iff.mp hx))
  rw [goodD, z.2.1, z.2.2]
  rfl
theorem LfsP.shp (h : LfsP (nm4.take m) ls) : SeqAt.shaped (.list (ls.map leafD)) = true := by
  refine (shp_lst (m := 1) fun d hd => ?_).shaped (by decide)
  obtain ⟨l, hl, rfl⟩ := List.mem_map.mp hd
  refine shp_tup (ds := [.str l.1, .int l.2.1, .int l.2.2]) fun d hd => ?_
  simp only [List.mem_cons, List.not_mem_nil, or_false] at hd
  rcases hd with rfl | rfl | rfl
  · exact shp_str (nm4_ok _ (h.mem4 hl)).2.1
  · exact shp_int _
  · exact shp_int _
theorem leaves_eqv (ls : List (Str × Int × Int)) : PyData.eqv (.list (ls.map leafD)) (.list (ls.map leafD)) = true := by
  have e : exD (.list (ls.map leafD)) = true := by
    rw [exD, exDL_all]
    intro d hd
    obtain ⟨l, _, rfl⟩ := List.mem_map.mp hd
    rfl
  exact (eqv_ex _ _ e e).mpr rfl
theorem LfsP.sum (h : LfsP (nm4.take m) ls) (h1 : 1 ≤ m) : 1 ≤ (ls.map (·.2.1)).sum ∧ (ls.map (·.2.1)).sum ≤ 396 := by
  have gen : ∀ qs : List (Str × Int × Int), (∀ l ∈ qs, 1 ≤ l.2.1 ∧ l.2.1 ≤ 99) → (qs.length : Int) ≤ (qs.map (·.2.1)).sum ∧ (qs.map (·.2.1)).sum ≤ 99 * (qs.length : Int) := fun qs => by
    induction qs with
    | nil => exact fun _ => ⟨Int.le_refl _, Int.le_refl _⟩
    | cons x r ih =>
      intro hq
      obtain ⟨a, b⟩ := ih fun l hl => hq l (List.mem_cons_of_mem _ hl)
      obtain ⟨c, d⟩ := hq x List.mem_cons_self
      rw [List.map_cons, List.sum_cons, List.length_cons]
      omega
  have hl := h.len
  obtain ⟨a, b⟩ := gen ls fun l hl => ⟨(h.bd l hl).1, (h.bd l hl).2.1⟩
  omega
end
section
variable {P : Program} {w : World} {K : PySem.W.Frag} {mg : Str → Option Value} {base : Heap}
theorem ok_law (G : Gx K mg) (TN : GxR.TabB base mg G.c_strand_names G.p_strand_names) (TI : GxR.TabB base mg G.c_is_name G.p_is_name) : FnOk P w K mg base CX0 18 G.f_law G.fd_law ["script"] (spLaw K [G.p_strand_names, G.p_is_name]) := by
  have G__law_digits : FnOk P w K mg base CX0 17 G.f__law_digits G.fd__law_digits _ (spDigits K) := ok_digits G 15
  have G__law_strands := ok_lstr (P := P) (w := w) (base := base) G 10 6
  have G__law_trees := ok_ltr (P := P) (w := w) (base := base) G 12 4
  have G__law_repeats := ok_lrq (P := P) (w := w) (base := base) G 7
  have G_best_tree := ok_bt (P := P) (w := w) (base := base) G TN 0
  have G_is_rig := ok_isrig (P := P) (w := w) (base := base) G TI 13
  have G_repeat_count := ok_rc2 (P := P) (w := w) (base := base) G TN 1
  refine G.F_law.ok sc_law (fun vs H Q E h => ?_) (fun cdv A outer s H vs Q E hr h => ?_)
  · obtain ⟨a, ns, rfl, _⟩ := h
    rfl
  obtain ⟨a, ns, rfl, hS, h63, hTs, q⟩ := h
  have hT1 := hTs _ (List.mem_cons_self ..)
  have hT2 := hTs _ (List.mem_cons_of_mem _ (List.mem_cons_self ..))
  have hr : Room 17 _ := hr
  refine ⟨_, (pss_cons (ps_for PassesOwn.never rfl (pi_tup (D3.pe_tupL (pa_cons pe_int (pa_cons pe_int (pa_cons pe_int (pa_cons pe_int pa_nil)))))) (pg_name (i := 1) sc_law.nd rfl (.inl rfl))
      (pss_cons (ps_set (i := 2) sc_law.nd rfl (.inl rfl) (pe_call G__law_digits hr (by rfl) G.m__law_digits G.F__law_digits.kp G.b__law_digits .nil pass0 (pa_cons (pv 0) (pa_cons (pv 1) (pa_cons pe_int (pa_cons pe_int pa_nil))))))
    (pss_cons (ps_set (i := 3) sc_law.nd rfl (.inl rfl) (pe_lst pa_nil))
    (pss_cons (ps_for PassesOwn.never rfl (pi_enumT (by rfl) G.enumerate (pa_cons (pe_slice sl_tupA (D3.pe_tupL (pa_cons pe_str (pa_cons pe_str (pa_cons pe_str (pa_cons pe_str pa_nil))))) po_none (po_some (pe_op op_add pe_int (pe_op op_mod (pe_ix ix_list (pv 2) pe_int (fun _ _ => rfl)) pe_int)))) pa_nil)) (pg_tup rfl (pgs_cons (pg_name (i := 4) sc_law.nd rfl (.inl rfl)) (pgs_cons (pg_name (i := 5) sc_law.nd rfl (.inl rfl)) pgs_nil)))
      (pss_cons (ps_set (i := 6) sc_law.nd rfl (.inl rfl) (pe_ix ix_list (pe_lst (pa_cons pe_int (pa_cons pe_int (pa_cons pe_int (pa_cons (pe_op op_add pe_int (pe_op op_mod (pe_op op_fdiv (pe_ix ix_list (pv 2) (pv 4) (fun _ _ => rfl)) pe_int) pe_int)) pa_nil))))) (pe_op op_mod (pe_ix ix_list (pv 2) (pe_op op_add pe_int (pv 4)) (fun _ _ => rfl)) pe_int) (fun _ _ => rfl)))
    (pss_one (ps_expr (pe_bm PySem.F.plainAttrs_list PySem.F.slot_list_append PySem.F.type_list_append mt_append (pv 3) (pa_cons (D3.pe_tupL (pa_cons (pv 5) (pa_cons (pe_op op_add pe_int (pe_op op_mod (pe_ix ix_list (pv 2) (pv 4) (fun _ _ => rfl)) (pe_ix ix_list (pe_lst (pa_cons pe_int (pa_cons pe_int pa_nil))) (pe_op op_mod (pe_ix ix_list (pv 2) pe_int (fun _ _ => rfl)) pe_int) (fun _ _ => rfl)))) (pa_cons (pv 6) pa_nil)))) pa_nil))))))
    (pss_cons (ps_set (i := 3) sc_law.nd rfl (.inl rfl) (pe_callTy call_tuple_of (by rfl) G.tuple (by decide +kernel) (pa_cons (pv 3) pa_nil)))
    (pss_cons (ps_set (i := 7) sc_law.nd rfl (.inl rfl) (pe_callB (cr_sum rfl) (by rfl) G.sum (by decide +kernel) (pa_cons (pe_lc (own := [("strand", 11)]) (g := gName 11) (tt := tYes) (by rfl) sc_law.nd (pi_tup (pv 3)) (blkOk_by (own := [("strand", 11)]) (N := N_law) (sc := defScope s_law) (by decide +kernel)) (fun _ _ _ _ _ => (pg_name (i := 11) sc_law.nd rfl (.inl rfl) (.inr rfl))) (fun _ _ _ _ _ => pts_nil) (fun _ _ _ _ _ => (pe_ix (r := rIxT K) ix_tup (pv 11) pe_int (fun _ _ => rfl)))) pa_nil)))
    (pss_one (ps_for PassesOwn.never rfl (pi_tup (D3.pe_tupL (pa_cons (pe_op op_add pe_int (pe_op op_mod (pe_ix ix_list (pv 2) pe_int (fun _ _ => rfl)) (pv 7))) (pa_cons (pe_op op_add pe_int (pe_op op_mod (pe_ix ix_list (pv 2) pe_int (fun _ _ => rfl)) (pe_op op_add pe_int (pe_op op_fdiv (pv 7) pe_int)))) (pa_cons (pv 7) pa_nil))))) (pg_name (i := 8) sc_law.nd rfl (.inr rfl))
      (pss_cons (ps_asg (pe_call G_best_tree hr (by rfl) G.m_best_tree G.F_best_tree.kp G.b_best_tree .nil pass0 (pa_cons (pv 3) (pa_cons (pv 8) pa_nil))) (pg_tup rfl (pgs_cons (pg_name (i := 9) sc_law.nd rfl (.inl rfl)) (pgs_cons (pg_name (i := 10) sc_law.nd rfl (.inl rfl)) pgs_nil))))
    (pss_cons (ps_if (PW.pt (pw_or (pt_cmpR op_notBl (pe_call G_is_rig hr (by rfl) G.m_is_rig G.F_is_rig.kp G.b_is_rig .nil pass0 (pa_cons (pv 10) pa_nil)) pe_bl (nomark _)) (pw_or1 (pt_cmpR (op_neD hr.units) (pe_callB (D2.cr_sortD hr.units) (by rfl) G.sorted (by decide +kernel) (pa_cons (pe_call G__law_strands hr (by rfl) G.m__law_strands G.F__law_strands.kp G.b__law_strands .nil pass0 (pa_cons (pv 10) pa_nil)) pa_nil)) (pe_callTy call_list_of (by rfl) G.list (by decide +kernel) (pa_cons (pv 3) pa_nil)) (nomark _))))) (pss_one (ps_ret pe_bl)) pss_nil)
    (pss_cons (ps_if (PW.pt (pw_or (pt_cmpR op_ne (pe_call G_repeat_count hr (by rfl) G.m_repeat_count G.F_repeat_count.kp G.b_repeat_count .nil pass0 (pa_cons (pv 10) (pa_cons (pv 8) pa_nil))) (pv 9) (nomark _)) (pw_or1 (pt_val (pe_callB call_isi (by rfl) G.isinstance (by decide +kernel) (pa_cons (pv 9) (pa_cons (pe_bltn (v := .ty "bool") (u := .type "bool") (by rfl) G.bool (by decide +kernel) rfl) pa_nil))))))) (pss_one (ps_ret pe_bl)) pss_nil)
    (pss_one (ps_if (pt_cmpR op_ne (pe_ifExp (pt_cmpR op_isN (pv 9) pe_non (nomark _)) pe_int (pv 9)) (pe_callB (cr_max rfl) (by rfl) G.max (by decide +kernel) (pa_cons (pe_lc (own := [("one", 12)]) (g := gName 12) (tt := tYes) (by rfl) sc_law.nd (pi_list (pe_call G__law_trees hr (by rfl) G.m__law_trees G.F__law_trees.kp G.b__law_trees .nil pass0 (pa_cons (pv 3) pa_nil))) (blkOk_by (own := [("one", 12)]) (N := N_law) (sc := defScope s_law) (by decide +kernel)) (fun _ _ _ _ _ => (pg_name (i := 12) sc_law.nd rfl (.inl rfl) (.inr rfl))) (fun _ _ _ _ _ => pts_nil) (fun _ _ _ _ _ => (pe_call G__law_repeats hr (by rfl) G.m__law_repeats G.F__law_repeats.kp G.b__law_repeats .nil pass0 (pa_cons (pv 12) (pa_cons (pv 8) pa_nil))))) pa_nil)) (nomark _)) (pss_one (ps_ret pe_bl)) pss_nil)))))))))))))
    (pss_one (ps_ret pe_bl))), ?_⟩
  refine ⟨(by decide : 4 ≤ sizeLine), fun tt HT lt ktt => ⟨tt, rfl, ⟨_, tupN_sq ktt⟩, ?_⟩⟩
  refine for_tup (D := { nx := _, rt := _, bk := fun _ _ => True, ct := fun _ _ => True }) (xs := [V.int 0, V.int 2, V.int 4, V.int 6]) (fun i σ4 H4 => ∃ z1 z2 z3 z4 z5 z6 z7 z8 z9 z10 z11 z12 : Option V, σ4 = [some (.ref a), z1, z2, z3, z4, z5, z6, z7, z8, z9, z10, z11, z12] ∧ Le HT H4) ⟨_, _, _, _, _, _, _, _, _, _, _, _, rfl, Le.refl _⟩ (fun i σ4 H4 _ ⟨_, _, _, _, _, _, _, _, _, _, _, _, _, l4⟩ => l4.sqt (tupN_sq ktt)) ?_ ?_
  rotate_left
  · rintro σ4 H4 ⟨z1, z2, z3, z4, z5, z6, z7, z8, z9, z10, z11, z12, rfl, l4⟩
    exact q _
  rintro i x σ4 H4 hx ⟨z1, z2, z3, z4, z5, z6, z7, z8, z9, z10, z11, z12, rfl, l4⟩
  obtain ⟨ix, rfl, ix0, ix1⟩ : ∃ ix : Int, x = .int ix ∧ 0 ≤ ix ∧ ix ≤ 900 := by
    have hm := List.mem_of_getElem? hx
    simp only [List.mem_cons, List.not_mem_nil, or_false] at hm
    rcases hm with rfl | rfl | rfl | rfl
    · exact ⟨0, rfl, by decide, by decide⟩
    · exact ⟨2, rfl, by decide, by decide⟩
    · exact ⟨4, rfl, by decide, by decide⟩
    · exact ⟨6, rfl, by decide, by decide⟩
  have lH4 := lt.trans l4
  refine ⟨_, rfl, _, rfl, a, ns, ix, 60, 27720, rfl, lH4.sql hS, h63, ix0, by omega, by decide, by decide, by decide, by decide, fun ds g Hd dl dr ld hg kg => ?_⟩
  have dl60 : ds.length = 60 := dl
  have dnn : Nn ds := fun d hd => (dr d hd).1
  have lHd := lH4.trans ld
  have lTd := l4.trans ld
  -- the strands
  refine ⟨Nat.zero_le _, fun p0 hp0 => ?_⟩
  have l0 := Le.new (o := .lst []) hp0
  have k0 : upd Hd p0 (.lst []) p0 = some (.lst []) := upd_same
  generalize upd Hd p0 (.lst []) = H0 at l0 k0
  obtain ⟨e40, e40n, _, e40e⟩ := dig_at (i := 40) dnn (by decide) (by omega)
  obtain ⟨e45, e45n, _, e45e⟩ := dig_at (i := 45) dnn (by decide) (by omega)
  refine ⟨(by decide : 4 ≤ sizeLine), fun t4 J lj kj => ⟨_, rfl, g, _, _, _, rfl, rfl, sql ((l0.trans lj).lst kg), e40e, _, _, rfl, rfl, (by decide : (0 : Int) < 3), _, _, rfl, rfl, _, rfl, ?_⟩⟩
  have m0 : 0 ≤ e40 % 3 := Int.emod_nonneg _ (by decide)
  have m0b : e40 % 3 < 3 := Int.emod_lt_of_pos _ (by decide)
  obtain ⟨m, em, m2, m4⟩ : ∃ m : Nat, 2 + e40 % 3 = ((m : Nat) : Int) ∧ 2 ≤ m ∧ m ≤ 4 := ⟨(2 + e40 % 3).toNat, by omega, by omega, by omega⟩
  rw [em]
  refine slS (tupN_sq kj) fun p3 H3 l3 k3 => ?_
  rw [cut_take (k := m)] at k3
  have k3 : SqT K H3 p3 ((nm4.take m).map V.str) := by
    rw [List.map_take]
    exact k3
  have l03 := lj.trans l3
  have nl4 : (nm4.take m).length = m := by
    rw [List.length_take]
    show min m 4 = m
    omega
  have k03 := l03.lst k0
  have lH3 := l0.trans l03
  refine ⟨p3, _, rfl, k3, fun J Gd wk hG => ?_⟩
  have xl : ((nm4.take m).map V.str).length = m := by rw [List.length_map]; exact nl4
  refine for_it wk (fun j σ6 H6 => ∃ (z4 z5 z6 : Option V) (acc : List V) (ls : List (Str × Int × Int)), σ6 = [some (.ref a), some (.int ix), some (.ref g), some (.ref p0), z4, z5, z6, z7, z8, z9, z10, z11, z12] ∧ Le Hd H6 ∧ H6 p0 = some (.lst acc) ∧ Dp K H6 (.ref p3) (subD (nm4.take m)) ∧ DpAll K H6 acc (ls.map leafD) ∧ LfsP ((nm4.take m).take j) ls) ⟨_, _, _, [], [], rfl, lH3, k03, subD_of k3, .nil, ⟨by rw [List.take_zero]; rfl, fun l hl => (by cases hl)⟩⟩ (fun j σ6 H6 _ ⟨_, _, _, _, _, _, _, _, d3, _⟩ => hG H6 (let ⟨_, e, z⟩ := of_subD d3; (by cases e; exact z))) ?_ ?_
  · rintro j x0 σ6 H6 H7 hj ⟨z4, z5, z6, acc, ls, rfl, l6, h6, d6, da6, lp⟩ ⟨T', x1, y, rfl, hT', rfl, ex, hy⟩
    cases ex
    have jm : j < m := by omega
    have hn : (nm4.take m)[j]? = some (nm4.take m)[j] := List.getElem?_eq_getElem (by omega)
    have hy : ((nm4.take m).map V.str)[j]? = some y := hy
    rw [List.getElem?_map, hn] at hy
    have tk : (nm4.take m).take (j + 1) = (nm4.take m).take j ++ [(nm4.take m)[j]] := by rw [List.take_succ, hn]; rfl
    generalize (nm4.take m)[j] = nm at hy tk
    obtain rfl : V.str nm = y := Option.some.inj hy
    have al := dpAll_length da6
    rw [List.length_map] at al
    have ll : ls.length = j := by
      have := congrArg List.length lp.nm
      rw [List.length_map, List.length_take] at this
      omega
    have o1 := Le.new (o := .tup [.int (j : Nat), .str nm]) hT'
    have k7 : SqT K (upd H6 T' (.tup [.int (j : Nat), .str nm])) T' [.int (j : Nat), .str nm] := sqt upd_same
    generalize upd H6 T' (.tup [.int (j : Nat), .str nm]) = H7 at o1 k7
    refine ⟨T', _, rfl, k7, rfl, _, _, rfl, _, _, rfl, rfl, ?_⟩
    have kg7 := (l6.trans o1).lst kg
    obtain ⟨ej, ejn, _, eje⟩ := dig_at (i := ((j : Nat) : Int)) dnn (by omega) (by omega)
    obtain ⟨ek, ekn, _, eke⟩ := dig_at (i := 41 + ((j : Nat) : Int)) dnn (by omega) (by omega)
    refine ⟨_, rfl, _, rfl, g, _, _, _, rfl, rfl, sql kg7, eje, _, _, rfl, rfl, ⟨by decide, by decide⟩, _, _, rfl, rfl, (by decide : (0 : Int) < 20), _, _, rfl, rfl, (by decide : 4 ≤ sizeLine), fun pw hpw => ?_⟩
    have q0 : 0 ≤ ej / 99 % 20 := Int.emod_nonneg _ (by decide)
    have q1 : ej / 99 % 20 < 20 := Int.emod_lt_of_pos _ (by decide)
    generalize ej / 99 % 20 = qv at q0 q1
    have o2 := Le.new (o := .lst [.int 0, .int 1, .int 3, .int (1 + qv)]) hpw
    have kw : upd H7 pw (.lst [.int 0, .int 1, .int 3, .int (1 + qv)]) pw = some (.lst (([0, 1, 3, 1 + qv] : List Int).map V.int)) := upd_same
    generalize upd H7 pw (.lst [.int 0, .int 1, .int 3, .int (1 + qv)]) = H8 at o2 kw
    have kg8 := o2.lst kg7
    have n0 : 0 ≤ ek % 4 := Int.emod_nonneg _ (by decide)
    have n1 : ek % 4 < 4 := Int.emod_lt_of_pos _ (by decide)
    obtain ⟨wv, wm, _, we⟩ := atI_ints (ns := [0, 1, 3, 1 + qv]) n0 n1
    have wb : 0 ≤ wv ∧ wv ≤ 20 := by
      simp only [List.mem_cons, List.not_mem_nil, or_false] at wm
      rcases wm with rfl | rfl | rfl | rfl <;> omega
    refine ⟨_, rfl, _, rfl, _, _, rfl, rfl, g, _, _, _, rfl, rfl, sql kg8, eke, _, _, rfl, rfl, (by decide : (0 : Int) < 4), pw, _, _, _, rfl, rfl, sql kw, we, ?_⟩
    have h68 := (o1.trans o2).lst h6
    refine ⟨_, rfl, .inl ⟨rfl, _, sql h68⟩, ?_⟩
    refine ⟨_, rfl, _, rfl, _, rfl, g, _, _, _, rfl, rfl, sql kg8, eje, (by decide : 2 ≤ sizeLine), fun pq hpq => ?_⟩
    have o3 := Le.new (o := .lst [.int 99, .int 20]) hpq
    have kq : upd H8 pq (.lst [.int 99, .int 20]) pq = some (.lst (([99, 20] : List Int).map V.int)) := upd_same
    generalize upd H8 pq (.lst [.int 99, .int 20]) = H9 at o3 kq
    have kg9 := o3.lst kg8
    have r0 : 0 ≤ e45 % 2 := Int.emod_nonneg _ (by decide)
    have r1 : e45 % 2 < 2 := Int.emod_lt_of_pos _ (by decide)
    obtain ⟨pv9, pm, _, pe9⟩ := atI_ints (ns := [99, 20]) r0 r1
    have pb : 0 < pv9 ∧ pv9 ≤ 99 := by
      simp only [List.mem_cons, List.not_mem_nil, or_false] at pm
      rcases pm with rfl | rfl <;> omega
    have s0 : 0 ≤ ej % pv9 := Int.emod_nonneg _ (by omega)
    have s1 : ej % pv9 < pv9 := Int.emod_lt_of_pos _ pb.1
    refine ⟨_, rfl, g, _, _, _, rfl, rfl, sql kg9, e45e, _, _, rfl, rfl, (by decide : (0 : Int) < 2), pq, _, _, _, rfl, rfl, sql kq, pe9, _, _, rfl, rfl, pb.1, _, _, rfl, rfl, _, rfl, (by decide : 3 ≤ sizeLine), fun pt J2 lj2 kj2 => ?_⟩
    have o24 := o1.trans (o2.trans (o3.trans lj2))
    have hJ := o24.lst h6
    refine ⟨p0, _, _, rfl, rfl, hJ, szlt (by omega), ?_⟩
    have dn : Dp K J2 (.ref pt) (leafD (nm, 1 + ej % pv9, wv)) := .tup (tupN_sq kj2) (.cons (.str _) (.cons (.int _) (.cons (.int _) .nil)))
    refine ⟨_, _, _, _, ls ++ [(nm, 1 + ej % pv9, wv)], rfl, (l6.trans o24).mut hp0, upd_same, dp_upd hJ (tupO_sub _) (o24.dp d6), ?_, ?_⟩
    · rw [List.map_append]
      exact dpAll_append (dpAll_upd hJ (tupOL_all.mpr fun d hd => by
        obtain ⟨l, _, rfl⟩ := List.mem_map.mp hd
        exact tupO_leafD l) (o24.dpAll da6)) (.cons (dp_upd hJ (tupO_leafD _) dn) .nil)
    · rw [tk]
      exact lp.snoc (by omega) (by omega) wb.1 wb.2
  rintro σ6 H6 ⟨z4, z5, z6, acc, ls, rfl, l6, h6, _, da6, lp⟩
  rw [xl, List.take_take, Nat.min_self] at lp
  have lsl := lp.len
  have al := dpAll_length da6
  rw [List.length_map] at al
  refine ⟨_, rfl, p0, acc, rfl, .inl ⟨sql h6, fun pT hpT => ?_⟩⟩
  have o1 := Le.new (o := .tup acc) hpT
  have kT : SqT K (upd H6 pT (.tup acc)) pT acc := sqt upd_same
  generalize upd H6 pT (.tup acc) = H7 at o1 kT
  have da7 := o1.dpAll da6
  have lH7 := lHd.trans (l6.trans o1)
  have lT7 := lTd.trans (l6.trans o1)
  have kg7 := (l6.trans o1).lst kg
  -- total
  refine ⟨_, rfl, pT, rfl, ⟨acc, kT⟩, fun D hD => ?_⟩
  refine lc_tup (xs := acc) (fun j Hm => Le H7 Hm ∧ Hm D = some (.lst (((ls.take j).map (·.2.1)).map V.int))) ⟨Le.new hD, upd_same⟩ (fun j Hm _ ⟨lm, _⟩ => lm.sqt kT) ?_ ?_
  · rintro j x1 Hm hx1 ⟨lm, hacc⟩
    obtain ⟨d, hdi, hdx⟩ := dpAll_getV (lm.dpAll da7) hx1
    have hj : j < ls.length := by
      have := (List.getElem?_eq_some_iff.mp hx1).1
      omega
    have hc : ls[j]? = some ls[j] := List.getElem?_eq_getElem hj
    generalize ls[j] = lf at hc
    rw [List.getElem?_map, hc] at hdi
    obtain rfl : leafD lf = d := Option.some.inj hdi
    obtain ⟨b, rfl, hb⟩ := dp_leaf hdx
    refine ⟨rfl, yes_go ⟨_, rfl, b, _, _, _, rfl, rfl, hb, atI_nat (j := 1) rfl, _, hacc, szlt (by rw [List.length_map, List.length_map, List.length_take]; omega), lm.mut hD, ?_⟩⟩
    rw [upd_same, List.take_succ, hc, List.map_append, List.map_append]
    rfl
  rintro H8 ⟨l8, hD8⟩
  rw [al, List.take_length] at hD8
  refine ⟨D, _, rfl, sql hD8, ?_⟩
  obtain ⟨tot1, tot2⟩ := lp.sum (by omega)
  generalize (ls.map (·.2.1)).sum = total at tot1 tot2
  have hls := lp.ok
  -- leaves are l :: r
  cases hlc : ls with
  | nil =>
    rw [hlc, List.length_nil] at lsl
    omega
  | cons l r =>
  have r1 : 1 ≤ r.length := by
    rw [hlc, List.length_cons] at lsl
    omega
  have r3 : r.length ≤ 3 := by
    rw [hlc, List.length_cons] at lsl
    omega
  have bt := both_trees l r r1 r3
  rw [← hlc] at bt
  have sne := stgT_ne (leafT l) r.length (r.map leafT) (List.length_map _)
  have sall := stgT_all l r.length r rfl
  rw [← hlc] at sall
  have hls2 : LsOk (l :: r) := hlc ▸ hls
  have da7' : DpAll K H7 acc ((l :: r).map leafD) := hlc ▸ da7
  have hlr : ∀ t : T, t.leaves.Perm ls → t.leaves.Perm (l :: r) := fun t p => hlc ▸ p
  generalize hSe : stgT (leafT l) (r.map leafT) = S at bt sne sall
  have lH8 := lH7.trans l8
  have lT8 := lT7.trans l8
  have kg8 := l8.lst kg7
  obtain ⟨e50, e50n, _, e50e⟩ := dig_at (i := 50) dnn (by decide) (by omega)
  obtain ⟨e51, e51n, _, e51e⟩ := dig_at (i := 51) dnn (by decide) (by omega)
  have c2 : 0 ≤ total / 2 := Int.ediv_nonneg (by omega) (by decide)
  have c2b : total / 2 ≤ total := Int.ediv_le_self _ (by omega)
  have a0 : 0 ≤ e50 % total := Int.emod_nonneg _ (by omega)
  have a1 : e50 % total < total := Int.emod_lt_of_pos _ (by omega)
  have b0 : 0 ≤ e51 % (1 + total / 2) := Int.emod_nonneg _ (by omega)
  have b1 : e51 % (1 + total / 2) < 1 + total / 2 := Int.emod_lt_of_pos _ (by omega)
  refine ⟨_, rfl, g, _, _, _, rfl, rfl, sql kg8, e50e, _, rfl, _, _, rfl, rfl, (by omega : (0 : Int) < total), _, _, rfl, rfl, _, rfl, g, _, _, _, rfl, rfl, sql kg8, e51e, _, rfl, _, _, rfl, rfl, ⟨by decide, by decide⟩, _, _, rfl, rfl, _, _, rfl, rfl, (by omega : (0 : Int) < 1 + total / 2), _, _, rfl, rfl, _, rfl, (by decide : 3 ≤ sizeLine), fun t9 H9 l9 k9 => ?_⟩
  have hall : ∀ y ∈ [V.int (1 + e50 % total), V.int (1 + e51 % (1 + total / 2)), V.int total], ∃ L : Int, y = .int L ∧ 1 ≤ L ∧ L ≤ 1000 := fun y hy => by
    simp only [List.mem_cons, List.not_mem_nil, or_false] at hy
    rcases hy with rfl | rfl | rfl
    · exact ⟨_, rfl, by omega, by omega⟩
    · exact ⟨_, rfl, by omega, by omega⟩
    · exact ⟨_, rfl, by omega, by omega⟩
  generalize [V.int (1 + e50 % total), V.int (1 + e51 % (1 + total / 2)), V.int total] = Ls at hall k9
  refine ⟨t9, rfl, ⟨_, tupN_sq k9⟩, ?_⟩
  refine for_tup (xs := Ls) (fun j σ5 HA => ∃ y8 y9 y10 y11 y12 : Option V, σ5 = [some (.ref a), some (.int ix), some (.ref g), some (.ref pT), z4, z5, z6, some (.int total), y8, y9, y10, y11, y12] ∧ Le H9 HA) ⟨_, _, _, _, _, rfl, Le.refl _⟩ (fun j σ5 HA _ ⟨_, _, _, _, _, _, lA⟩ => lA.sqt (tupN_sq k9)) ?_ ?_
  rotate_left
  · rintro σ5 HA ⟨y8, y9, y10, y11, y12, rfl, lA⟩
    exact ⟨_, _, _, _, _, _, _, _, _, _, _, _, rfl, lT8.trans (l9.trans lA)⟩
  rintro j x0 σ5 HA hxL ⟨y8, y9, y10, y11, y12, rfl, lA⟩
  obtain ⟨L, rfl, L1, L2⟩ := hall x0 (List.mem_of_getElem? hxL)
  have l7A := l8.trans (l9.trans lA)
  have lHA := lH7.trans l7A
  -- best_tree
  refine ⟨_, rfl, _, rfl, pT, acc, l, r, L, rfl, l7A.sqt kT, l7A.dpAll da7', hls2, L1, lHA.tab _ hT1, fun pb x y HB lB kB bx by_ => ?_⟩
  rw [hSe] at bx by_
  obtain ⟨t, htS, dt, rt⟩ := by_
  obtain ⟨tok, tpm⟩ := sall t htS
  have tpm2 := hlr t tpm
  refine ⟨pb, _, rfl, kB, rfl, _, _, rfl, _, _, rfl, rfl, ?_⟩
  have lHB := lHA.trans lB
  have l7B := l7A.trans lB
  have hRt : RigAt K HB y t := hls2.rig tok tpm2 dt
  have tlen : t.leaves.length ≤ 4 := by rw [tpm.length_eq]; omega
  have ts := T.size t tok
  -- is_rig
  refine ⟨_, rfl, y, t.data, rfl, dt, lp.good tpm, by omega, lHB.tab _ hT2, fun HC lC => ?_⟩
  rw [rigB_tree tok (by omega) hRt.nd fun l hl => lp.strand l (tpm.mem_iff.mp hl)]
  refine ⟨true, true, rfl, rfl, _, rfl, iteF ?_⟩
  have hRC := hRt.le lC
  have l7C := l7B.trans lC
  -- sorted strands
  refine ⟨_, rfl, y, t, HC, rfl, Le.refl _, hRC.dp, hRC.ok, hRC.len, by decide, fun ps us HD lD hps hus dus => ?_⟩
  refine ⟨ps, us, _, rfl, .inl (sql hus), lD.dpAll dus, alike_leaves _, sortable_leaves _, depth_leaves _, fun zs p6 hp6 dz pz => ?_⟩
  rw [sort_leaves hRt.nd tpm.symm lp.asc] at dz
  have l6' := Le.new (o := .lst zs) hp6
  have k6 : upd HD p6 (.lst zs) p6 = some (.lst zs) := upd_same
  have dz6 := l6'.dpAll dz
  generalize upd HD p6 (.lst zs) = HE at l6' k6 dz6
  have l7E := l7C.trans (lD.trans l6')
  refine ⟨_, rfl, pT, acc, rfl, .inr (l7E.sqt kT), fun pl hpl => ?_⟩
  have l8' := Le.new (o := .lst acc) hpl
  have kl : upd HE pl (.lst acc) pl = some (.lst acc) := upd_same
  generalize upd HE pl (.lst acc) = HF at l8' kl
  have l7F := l7E.trans l8'
  have lCF := lD.trans (l6'.trans l8')
  refine ⟨.list (ls.map leafD), .list (ls.map leafD), .lst (sql (l8'.lst k6)) (l8'.dpAll dz6), .lst (sql kl) (l7F.dpAll da7), lp.shp, lp.shp, _, rfl, ?_⟩
  rw [leaves_eqv]
  refine iteF ?_
  -- repeat_count
  have lHF := lH7.trans l7F
  refine ⟨_, rfl, _, rfl, y, t, L, rfl, hRC.le lCF, L1, lHF.tab _ hT1, fun x2 HG lG rx fx => ?_⟩
  have ex := rc_uniq rx rt
  subst ex
  have l7G := l7F.trans lG
  have sc : scal x2 x2 = true := by
    rcases rt with ⟨e, _⟩ | ⟨c, e, _⟩ <;> rw [e] <;> rfl
  refine ⟨_, rfl, sc, _, rfl, ?_⟩
  rw [show (!decide (x2 = x2)) = false by simp]
  refine iteF ?_
  have fin : ∀ M : Nat, (∃ u ∈ lawB leafT T.node 4 ls, RqAt u L M) → (∀ u ∈ lawB leafT T.node 4 ls, ∃ m, RqAt u L m ∧ m ≤ M) → (x2 = .non ∧ M = 120) ∨ x2 = .int (M : Nat) := fun M h1 h2 => best_max bt (fun t ht => (by
    have z : t.names.Perm ((l :: r).map (·.1)) := (hlr t (sall t ht).2).map _
    exact z.nodup_iff.mpr hls2.nd)) bx h1 h2
  have lenls : 1 ≤ ls.length ∧ ls.length ≤ 4 := by omega
  have rigU : ∀ u ∈ lawB leafT T.node 4 ls, ∀ (v : V) (H' : Hp), Dp K H' v u.data → RigAt K H' v u ∧ ∀ l ∈ u.leaves, l.2.1 ≤ 99 := fun u hu v H' d => by
    obtain ⟨t2, ht2, dv⟩ := bt.fro u hu
    have pu : u.leaves.Perm ls := dv.1.symm.trans (sall t2 ht2).2
    exact ⟨hls2.rig (bt.ok u hu) (hlr u pu) d, fun l hl => (lp.bd l (pu.mem_iff.mp hl)).2.1⟩
  have unE : ∃ u, u ∈ lawB leafT T.node 4 ls := by
    obtain ⟨t2, ht2⟩ := sne
    obtain ⟨u, hu, _⟩ := bt.to t2 ht2
    exact ⟨u, hu⟩
  have ulen := bt.len
  clear bt
  generalize hUe : lawB leafT T.node 4 ls = U at fin rigU unE ulen
  have dpx : ∃ d, Dp K HG x2 d ∧ isBoolD d = false := by
    rcases rt with ⟨e, _⟩ | ⟨c, e, _⟩ <;> rw [e]
    · exact ⟨.none, .non, rfl⟩
    · exact ⟨.int _, .int _, rfl⟩
  obtain ⟨dx, hdx, nb⟩ := dpx
  refine ⟨_, rfl, x2, _, _, _, _, rfl, .ty "bool", dp_ty hdx, kit_ty (kit_bool _), _, rfl, ?_⟩
  rw [nb]
  refine iteF ?_
  have hv : ∃ v : V, (∀ M : Nat, (∃ u ∈ U, RqAt u L M) → (∀ u ∈ U, ∃ m, RqAt u L m ∧ m ≤ M) → v = .int (M : Nat)) ∧ ((x2 = .non ∧ v = .int 120) ∨ ∃ c : Nat, x2 = .int (c : Nat) ∧ v = .int (c : Nat)) := by
    rcases rt with ⟨e, _⟩ | ⟨c, e, _⟩
    · refine ⟨.int 120, fun M h1 h2 => ?_, .inl ⟨e, rfl⟩⟩
      rcases fin M h1 h2 with ⟨_, z⟩ | z
      · rw [z]
        rfl
      · rw [e] at z
        cases z
    · refine ⟨.int (c : Nat), fun M h1 h2 => ?_, .inr ⟨c, e, rfl⟩⟩
      rcases fin M h1 h2 with ⟨z, _⟩ | z
      · rw [e] at z
        cases z
      · rw [← z, e]
  obtain ⟨v, hv, hx2⟩ := hv
  rcases hx2 with ⟨e, ev⟩ | ⟨c, e, ev⟩
  · subst e
    subst ev
    refine ⟨_, rfl, rfl, _, rfl, iteT ?_⟩
    refine ⟨_, rfl, pT, acc, ls, rfl, l7G.sqt kT, l7G.dpAll da7, lenls.1, lenls.2, Nat.le_refl 4, fun pu us2 HI lI hpu kU dU => ⟨pu, rfl, ⟨us2, sql kU⟩, fun D2 hD2 => ?_⟩⟩
    rw [hUe] at dU
    have u2l := dpAll_length dU
    rw [List.length_map] at u2l
    refine lc_list (xs := us2) (fun j Hm => Le HI Hm ∧ ∃ cs : List Nat, Hm D2 = some (.lst ((cs.map fun c : Nat => ((c : Nat) : Int)).map V.int)) ∧ cs.length = j ∧ ∀ i u, U[i]? = some u → i < j → ∃ c, cs[i]? = some c ∧ RqAt u L c) ⟨Le.new hD2, [], upd_same, rfl, fun i u _ z => absurd z (Nat.not_lt_zero _)⟩ (fun j Hm _ ⟨lm, _⟩ => sql (lm.lst kU)) ?_ ?_
    · rintro j x1 Hm hx1 ⟨lm, cs, hcs, cl, call⟩
      obtain ⟨d, hdj, hdx1⟩ := dpAll_getV (lm.dpAll dU) hx1
      rw [List.getElem?_map] at hdj
      cases hj : U[j]? with
      | none => rw [hj] at hdj; cases hdj
      | some u =>
        rw [hj] at hdj
        obtain rfl : u.data = d := Option.some.inj hdj
        have jl := (List.getElem?_eq_some_iff.mp hx1).1
        obtain ⟨ru, r99⟩ := rigU u (List.mem_of_getElem? hj) x1 Hm hdx1
        refine ⟨rfl, yes_go ⟨_, rfl, _, rfl, x1, u, L, rfl, ru, r99, L1, L2, fun m2 Hn ln rq => ⟨_, ln.lst hcs, szlt (by rw [List.length_map, List.length_map]; omega), (lm.trans ln).mut hD2, cs ++ [m2], ?_, by rw [List.length_append, cl]; rfl, fun i u2 he hi => ?_⟩⟩⟩
        · rw [upd_same, List.map_append, List.map_append]
          rfl
        · rcases Nat.lt_or_ge i j with z | z
          · obtain ⟨c2, h1, h2⟩ := call i u2 he z
            exact ⟨c2, by rw [List.getElem?_append_left (by omega)]; exact h1, h2⟩
          · have ei : i = j := by omega
            subst ei
            rw [hj] at he
            cases he
            exact ⟨m2, by rw [List.getElem?_append_right (by omega), cl, Nat.sub_self]; rfl, rq⟩
    · rintro HJ ⟨lj2, cs, hcs, cl, call⟩
      refine ⟨D2, cs.map (fun c : Nat => ((c : Nat) : Int)), rfl, sql hcs, ?_, fun m0' mM mB => ?_⟩
      · obtain ⟨u, hu⟩ := unE
        have := List.length_pos_of_mem hu
        rw [List.length_map]
        omega
      obtain ⟨mx, mm, rfl⟩ := List.mem_map.mp mM
      have hm1 : ∃ u ∈ U, RqAt u L mx := by
        obtain ⟨i, hi, e⟩ := List.getElem_of_mem mm
        have hi2 : i < U.length := by omega
        obtain ⟨c, h1, h2⟩ := call i U[i] (List.getElem?_eq_getElem hi2) (by omega)
        rw [List.getElem?_eq_getElem hi, e] at h1
        cases h1
        exact ⟨_, List.getElem_mem hi2, h2⟩
      have hm2 : ∀ u ∈ U, ∃ m, RqAt u L m ∧ m ≤ mx := fun u hu => by
        obtain ⟨i, hi, ee⟩ := List.getElem_of_mem hu
        obtain ⟨c, h1, h2⟩ := call i u (by rw [List.getElem?_eq_getElem hi, ee]) (by omega)
        refine ⟨c, h2, ?_⟩
        have := mB _ (List.mem_map.mpr ⟨c, List.mem_of_getElem? h1, rfl⟩)
        omega
      have ef := hv mx hm1 hm2
      refine ⟨rfl, _, rfl, ?_⟩
      rw [decide_eq_true ef]
      exact iteF ⟨_, _, _, _, _, rfl, lA.trans (lB.trans (lC.trans (lCF.trans (lG.trans (lI.trans lj2)))))⟩
  · subst e
    subst ev
    refine ⟨_, rfl, rfl, _, rfl, iteF ⟨_, rfl, ?_⟩⟩
    refine ⟨_, rfl, pT, acc, ls, rfl, l7G.sqt kT, l7G.dpAll da7, lenls.1, lenls.2, Nat.le_refl 4, fun pu us2 HI lI hpu kU dU => ⟨pu, rfl, ⟨us2, sql kU⟩, fun D2 hD2 => ?_⟩⟩
    rw [hUe] at dU
    have u2l := dpAll_length dU
    rw [List.length_map] at u2l
    refine lc_list (xs := us2) (fun j Hm => Le HI Hm ∧ ∃ cs : List Nat, Hm D2 = some (.lst ((cs.map fun c : Nat => ((c : Nat) : Int)).map V.int)) ∧ cs.length = j ∧ ∀ i u, U[i]? = some u → i < j → ∃ c, cs[i]? = some c ∧ RqAt u L c) ⟨Le.new hD2, [], upd_same, rfl, fun i u _ z => absurd z (Nat.not_lt_zero _)⟩ (fun j Hm _ ⟨lm, _⟩ => sql (lm.lst kU)) ?_ ?_
    · rintro j x1 Hm hx1 ⟨lm, cs, hcs, cl, call⟩
      obtain ⟨d, hdj, hdx1⟩ := dpAll_getV (lm.dpAll dU) hx1
      rw [List.getElem?_map] at hdj
      cases hj : U[j]? with
      | none => rw [hj] at hdj; cases hdj
      | some u =>
        rw [hj] at hdj
        obtain rfl : u.data = d := Option.some.inj hdj
        have jl := (List.getElem?_eq_some_iff.mp hx1).1
        obtain ⟨ru, r99⟩ := rigU u (List.mem_of_getElem? hj) x1 Hm hdx1
        refine ⟨rfl, yes_go ⟨_, rfl, _, rfl, x1, u, L, rfl, ru, r99, L1, L2, fun m2 Hn ln rq => ⟨_, ln.lst hcs, szlt (by rw [List.length_map, List.length_map]; omega), (lm.trans ln).mut hD2, cs ++ [m2], ?_, by rw [List.length_append, cl]; rfl, fun i u2 he hi => ?_⟩⟩⟩
        · rw [upd_same, List.map_append, List.map_append]
          rfl
        · rcases Nat.lt_or_ge i j with z | z
          · obtain ⟨c2, h1, h2⟩ := call i u2 he z
            exact ⟨c2, by rw [List.getElem?_append_left (by omega)]; exact h1, h2⟩
          · have ei : i = j := by omega
            subst ei
            rw [hj] at he
            cases he
            exact ⟨m2, by rw [List.getElem?_append_right (by omega), cl, Nat.sub_self]; rfl, rq⟩
    · rintro HJ ⟨lj2, cs, hcs, cl, call⟩
      refine ⟨D2, cs.map (fun c : Nat => ((c : Nat) : Int)), rfl, sql hcs, ?_, fun m0' mM mB => ?_⟩
      · obtain ⟨u, hu⟩ := unE
        have := List.length_pos_of_mem hu
        rw [List.length_map]
        omega
      obtain ⟨mx, mm, rfl⟩ := List.mem_map.mp mM
      have hm1 : ∃ u ∈ U, RqAt u L mx := by
        obtain ⟨i, hi, e⟩ := List.getElem_of_mem mm
        have hi2 : i < U.length := by omega
        obtain ⟨c, h1, h2⟩ := call i U[i] (List.getElem?_eq_getElem hi2) (by omega)
        rw [List.getElem?_eq_getElem hi, e] at h1
        cases h1
        exact ⟨_, List.getElem_mem hi2, h2⟩
      have hm2 : ∀ u ∈ U, ∃ m, RqAt u L m ∧ m ≤ mx := fun u hu => by
        obtain ⟨i, hi, ee⟩ := List.getElem_of_mem hu
        obtain ⟨c, h1, h2⟩ := call i u (by rw [List.getElem?_eq_getElem hi, ee]) (by omega)
        refine ⟨c, h2, ?_⟩
        have := mB _ (List.mem_map.mpr ⟨c, List.mem_of_getElem? h1, rfl⟩)
        omega
      have ef := hv mx hm1 hm2
      refine ⟨rfl, _, rfl, ?_⟩
      rw [decide_eq_true ef]
      exact iteF ⟨_, _, _, _, _, rfl, lA.trans (lB.trans (lC.trans (lCF.trans (lG.trans (lI.trans lj2)))))⟩
end
end Wr

set_option Elab.async false
set_option linter.all false
set_option maxRecDepth 100000
set_option maxHeartbeats 4000000
namespace Wr
open PySem PySem.Spec PyProof.Rows L2
def genNames : List Str := ["strand_names", "is_name"]
theorem all_mk {l : PySem.W.OpenLaw} {w : World} {K : PySem.W.Frag} {h : Heap} {mg : Str → Option Value} {fa : Addr} (X : K.In h) (Gn : h.Ns mainGlobals mg) (hfa : mg "law" = some (.ref fa))
    {f1 : Addr} {od1 an1 : Option Addr} {sl1 : Array (Option Value)} {oc1 kV1 dc1 pm1 ct1 : Value} {cd1 : Value}
    {f2 : Addr} {od2 an2 : Option Addr} {sl2 : Array (Option Value)} {oc2 kV2 dc2 pm2 ct2 : Value} {cd2 : Value}
    {f3 : Addr} {od3 an3 : Option Addr} {sl3 : Array (Option Value)} {oc3 kV3 dc3 pm3 ct3 : Value} {cc3 pp3 : Addr} {dd3 : Option Addr} {vv3 : Array Value} {ss3 : Array (Option Value)}
    {f4 : Addr} {od4 an4 : Option Addr} {sl4 : Array (Option Value)} {oc4 kV4 dc4 pm4 ct4 : Value} {cd4 : Value}
    {f5 : Addr} {od5 an5 : Option Addr} {sl5 : Array (Option Value)} {oc5 kV5 dc5 pm5 ct5 : Value} {cd5 : Value}
    {f6 : Addr} {od6 an6 : Option Addr} {sl6 : Array (Option Value)} {oc6 kV6 dc6 pm6 ct6 : Value} {cd6 : Value}
    {f7 : Addr} {od7 an7 : Option Addr} {sl7 : Array (Option Value)} {oc7 kV7 dc7 pm7 ct7 : Value} {cd7 : Value}
    {f8 : Addr} {od8 an8 : Option Addr} {sl8 : Array (Option Value)} {oc8 kV8 dc8 pm8 ct8 : Value} {cd8 : Value}
    {f9 : Addr} {od9 an9 : Option Addr} {sl9 : Array (Option Value)} {oc9 kV9 dc9 pm9 ct9 : Value} {cd9 : Value}
    {f10 : Addr} {od10 an10 : Option Addr} {sl10 : Array (Option Value)} {oc10 kV10 dc10 pm10 ct10 : Value} {cd10 : Value}
    {f11 : Addr} {od11 an11 : Option Addr} {sl11 : Array (Option Value)} {oc11 kV11 dc11 pm11 ct11 : Value} {cd11 : Value}
    {f12 : Addr} {od12 an12 : Option Addr} {sl12 : Array (Option Value)} {oc12 kV12 dc12 pm12 ct12 : Value} {cd12 : Value}
    {f13 : Addr} {od13 an13 : Option Addr} {sl13 : Array (Option Value)} {oc13 kV13 dc13 pm13 ct13 : Value} {cd13 : Value}
    {f14 : Addr} {od14 an14 : Option Addr} {sl14 : Array (Option Value)} {oc14 kV14 dc14 pm14 ct14 : Value} {cd14 : Value}
    {f15 : Addr} {od15 an15 : Option Addr} {sl15 : Array (Option Value)} {oc15 kV15 dc15 pm15 ct15 : Value} {cd15 : Value}
    {f16 : Addr} {od16 an16 : Option Addr} {sl16 : Array (Option Value)} {oc16 kV16 dc16 pm16 ct16 : Value} {cc16 pp16 : Addr} {dd16 : Option Addr} {vv16 : Array Value} {ss16 : Array (Option Value)}
    {f17 : Addr} {od17 an17 : Option Addr} {sl17 : Array (Option Value)} {oc17 kV17 dc17 pm17 ct17 : Value} {cd17 : Value}
    {f18 : Addr} {od18 an18 : Option Addr} {sl18 : Array (Option Value)} {oc18 kV18 dc18 pm18 ct18 : Value} {cd18 : Value}
    {f19 : Addr} {od19 an19 : Option Addr} {sl19 : Array (Option Value)} {oc19 kV19 dc19 pm19 ct19 : Value} {cd19 : Value}
    {f20 : Addr} {od20 an20 : Option Addr} {sl20 : Array (Option Value)} {oc20 kV20 dc20 pm20 ct20 : Value} {cd20 : Value}
    {f21 : Addr} {od21 an21 : Option Addr} {sl21 : Array (Option Value)} {oc21 kV21 dc21 pm21 ct21 : Value} {cd21 : Value}
    {f22 : Addr} {od22 an22 : Option Addr} {sl22 : Array (Option Value)} {oc22 kV22 dc22 pm22 ct22 : Value} {cd22 : Value}
    {f23 : Addr} {od23 an23 : Option Addr} {sl23 : Array (Option Value)} {oc23 kV23 dc23 pm23 ct23 : Value} {cd23 : Value}
    {f24 : Addr} {od24 an24 : Option Addr} {sl24 : Array (Option Value)} {oc24 kV24 dc24 pm24 ct24 : Value} {cd24 : Value}
    {f25 : Addr} {od25 an25 : Option Addr} {sl25 : Array (Option Value)} {oc25 kV25 dc25 pm25 ct25 : Value} {cd25 : Value}
    {f26 : Addr} {od26 an26 : Option Addr} {sl26 : Array (Option Value)} {oc26 kV26 dc26 pm26 ct26 : Value} {cd26 : Value}
    {f27 : Addr} {od27 an27 : Option Addr} {sl27 : Array (Option Value)} {oc27 kV27 dc27 pm27 ct27 : Value} {cd27 : Value}
    {f28 : Addr} {od28 an28 : Option Addr} {sl28 : Array (Option Value)} {oc28 kV28 dc28 pm28 ct28 : Value} {cd28 : Value}
    {tt_MOST_STRANDS : Tok}
    {tt_LARGEST_WEAR : Tok}
    (a1 : PySem.W.nsIn K mainGlobals "is_leaf" = some (some (.ref f1)))
    (l1 : K.lookup f1 = some ⟨oc1, od1, .func (PySem.W.fnOf "is_leaf" "is_leaf" (defArgs s_is_leaf) (defBody s_is_leaf) (defScope s_is_leaf) .none kV1 dc1 pm1 an1 cd1 ct1), sl1⟩)
    (c1 : PySem.W.codeIn K cd1 "is_leaf" = true)
    (k1 : PySem.W.keepIn K (.ref f1) = true)
    (a2 : PySem.W.nsIn K mainGlobals "strands" = some (some (.ref f2)))
    (l2 : K.lookup f2 = some ⟨oc2, od2, .func (PySem.W.fnOf "strands" "strands" (defArgs s_strands) (defBody s_strands) (defScope s_strands) .none kV2 dc2 pm2 an2 cd2 ct2), sl2⟩)
    (c2 : PySem.W.codeIn K cd2 "strands" = true)
    (k2 : PySem.W.keepIn K (.ref f2) = true)
    (a3 : PySem.W.nsIn K mainGlobals "strand_names" = some (some (.ref f3)))
    (l3 : K.lookup f3 = some ⟨oc3, od3, .func (PySem.W.fnOf "strand_names" "strand_names" (defArgs s_strand_names) (defBody s_strand_names) (defScope s_strand_names) .none kV3 dc3 pm3 an3 (.ref cc3) ct3), sl3⟩)
    (c3 : PySem.W.codeIn K (.ref cc3) "strand_names" = true)
    (k3 : PySem.W.keepIn K (.ref f3) = true)
    (lc3 : K.lookup cc3 = some ⟨.type "code", dd3, .fields vv3, ss3⟩)
    (lv3 : CodeVs vv3 pp3)
    (lp3 : K.lookup pp3 = none)
    (a4 : PySem.W.nsIn K mainGlobals "strengths_after" = some (some (.ref f4)))
    (l4 : K.lookup f4 = some ⟨oc4, od4, .func (PySem.W.fnOf "strengths_after" "strengths_after" (defArgs s_strengths_after) (defBody s_strengths_after) (defScope s_strengths_after) .none kV4 dc4 pm4 an4 cd4 ct4), sl4⟩)
    (c4 : PySem.W.codeIn K cd4 "strengths_after" = true)
    (k4 : PySem.W.keepIn K (.ref f4) = true)
    (a5 : PySem.W.nsIn K mainGlobals "divisors" = some (some (.ref f5)))
    (l5 : K.lookup f5 = some ⟨oc5, od5, .func (PySem.W.fnOf "divisors" "divisors" (defArgs s_divisors) (defBody s_divisors) (defScope s_divisors) .none kV5 dc5 pm5 an5 cd5 ct5), sl5⟩)
    (c5 : PySem.W.codeIn K cd5 "divisors" = true)
    (k5 : PySem.W.keepIn K (.ref f5) = true)
    (a6 : PySem.W.nsIn K mainGlobals "least_strength" = some (some (.ref f6)))
    (l6 : K.lookup f6 = some ⟨oc6, od6, .func (PySem.W.fnOf "least_strength" "least_strength" (defArgs s_least_strength) (defBody s_least_strength) (defScope s_least_strength) .none kV6 dc6 pm6 an6 cd6 ct6), sl6⟩)
    (c6 : PySem.W.codeIn K cd6 "least_strength" = true)
    (k6 : PySem.W.keepIn K (.ref f6) = true)
    (a7 : PySem.W.nsIn K mainGlobals "unbroken" = some (some (.ref f7)))
    (l7 : K.lookup f7 = some ⟨oc7, od7, .func (PySem.W.fnOf "unbroken" "unbroken" (defArgs s_unbroken) (defBody s_unbroken) (defScope s_unbroken) .none kV7 dc7 pm7 an7 cd7 ct7), sl7⟩)
    (c7 : PySem.W.codeIn K cd7 "unbroken" = true)
    (k7 : PySem.W.keepIn K (.ref f7) = true)
    (a8 : PySem.W.nsIn K mainGlobals "settle" = some (some (.ref f8)))
    (l8 : K.lookup f8 = some ⟨oc8, od8, .func (PySem.W.fnOf "settle" "settle" (defArgs s_settle) (defBody s_settle) (defScope s_settle) .none kV8 dc8 pm8 an8 cd8 ct8), sl8⟩)
    (c8 : PySem.W.codeIn K cd8 "settle" = true)
    (k8 : PySem.W.keepIn K (.ref f8) = true)
    (a9 : PySem.W.nsIn K mainGlobals "lifts_until_worn" = some (some (.ref f9)))
    (l9 : K.lookup f9 = some ⟨oc9, od9, .func (PySem.W.fnOf "lifts_until_worn" "lifts_until_worn" (defArgs s_lifts_until_worn) (defBody s_lifts_until_worn) (defScope s_lifts_until_worn) .none kV9 dc9 pm9 an9 cd9 ct9), sl9⟩)
    (c9 : PySem.W.codeIn K cd9 "lifts_until_worn" = true)
    (k9 : PySem.W.keepIn K (.ref f9) = true)
    (a10 : PySem.W.nsIn K mainGlobals "repeats" = some (some (.ref f10)))
    (l10 : K.lookup f10 = some ⟨oc10, od10, .func (PySem.W.fnOf "repeats" "repeats" (defArgs s_repeats) (defBody s_repeats) (defScope s_repeats) .none kV10 dc10 pm10 an10 cd10 ct10), sl10⟩)
    (c10 : PySem.W.codeIn K cd10 "repeats" = true)
    (k10 : PySem.W.keepIn K (.ref f10) = true)
    (a11 : PySem.W.nsIn K mainGlobals "repeat_count" = some (some (.ref f11)))
    (l11 : K.lookup f11 = some ⟨oc11, od11, .func (PySem.W.fnOf "repeat_count" "repeat_count" (defArgs s_repeat_count) (defBody s_repeat_count) (defScope s_repeat_count) .none kV11 dc11 pm11 an11 cd11 ct11), sl11⟩)
    (c11 : PySem.W.codeIn K cd11 "repeat_count" = true)
    (k11 : PySem.W.keepIn K (.ref f11) = true)
    (a12 : PySem.W.nsIn K mainGlobals "trees_with" = some (some (.ref f12)))
    (l12 : K.lookup f12 = some ⟨oc12, od12, .func (PySem.W.fnOf "trees_with" "trees_with" (defArgs s_trees_with) (defBody s_trees_with) (defScope s_trees_with) .none kV12 dc12 pm12 an12 cd12 ct12), sl12⟩)
    (c12 : PySem.W.codeIn K cd12 "trees_with" = true)
    (k12 : PySem.W.keepIn K (.ref f12) = true)
    (a13 : PySem.W.nsIn K mainGlobals "all_trees" = some (some (.ref f13)))
    (l13 : K.lookup f13 = some ⟨oc13, od13, .func (PySem.W.fnOf "all_trees" "all_trees" (defArgs s_all_trees) (defBody s_all_trees) (defScope s_all_trees) .none kV13 dc13 pm13 an13 cd13 ct13), sl13⟩)
    (c13 : PySem.W.codeIn K cd13 "all_trees" = true)
    (k13 : PySem.W.keepIn K (.ref f13) = true)
    (a14 : PySem.W.nsIn K mainGlobals "best_tree" = some (some (.ref f14)))
    (l14 : K.lookup f14 = some ⟨oc14, od14, .func (PySem.W.fnOf "best_tree" "best_tree" (defArgs s_best_tree) (defBody s_best_tree) (defScope s_best_tree) .none kV14 dc14 pm14 an14 cd14 ct14), sl14⟩)
    (c14 : PySem.W.codeIn K cd14 "best_tree" = true)
    (k14 : PySem.W.keepIn K (.ref f14) = true)
    (a15 : PySem.W.nsIn K mainGlobals "is_between" = some (some (.ref f15)))
    (l15 : K.lookup f15 = some ⟨oc15, od15, .func (PySem.W.fnOf "is_between" "is_between" (defArgs s_is_between) (defBody s_is_between) (defScope s_is_between) .none kV15 dc15 pm15 an15 cd15 ct15), sl15⟩)
    (c15 : PySem.W.codeIn K cd15 "is_between" = true)
    (k15 : PySem.W.keepIn K (.ref f15) = true)
    (a16 : PySem.W.nsIn K mainGlobals "is_name" = some (some (.ref f16)))
    (l16 : K.lookup f16 = some ⟨oc16, od16, .func (PySem.W.fnOf "is_name" "is_name" (defArgs s_is_name) (defBody s_is_name) (defScope s_is_name) .none kV16 dc16 pm16 an16 (.ref cc16) ct16), sl16⟩)
    (c16 : PySem.W.codeIn K (.ref cc16) "is_name" = true)
    (k16 : PySem.W.keepIn K (.ref f16) = true)
    (lc16 : K.lookup cc16 = some ⟨.type "code", dd16, .fields vv16, ss16⟩)
    (lv16 : CodeVs vv16 pp16)
    (lp16 : K.lookup pp16 = none)
    (a17 : PySem.W.nsIn K mainGlobals "is_strand" = some (some (.ref f17)))
    (l17 : K.lookup f17 = some ⟨oc17, od17, .func (PySem.W.fnOf "is_strand" "is_strand" (defArgs s_is_strand) (defBody s_is_strand) (defScope s_is_strand) .none kV17 dc17 pm17 an17 cd17 ct17), sl17⟩)
    (c17 : PySem.W.codeIn K cd17 "is_strand" = true)
    (k17 : PySem.W.keepIn K (.ref f17) = true)
    (a18 : PySem.W.nsIn K mainGlobals "is_rig" = some (some (.ref f18)))
    (l18 : K.lookup f18 = some ⟨oc18, od18, .func (PySem.W.fnOf "is_rig" "is_rig" (defArgs s_is_rig) (defBody s_is_rig) (defScope s_is_rig) .none kV18 dc18 pm18 an18 cd18 ct18), sl18⟩)
    (c18 : PySem.W.codeIn K cd18 "is_rig" = true)
    (k18 : PySem.W.keepIn K (.ref f18) = true)
    (a19 : PySem.W.nsIn K mainGlobals "_law_cell" = some (some (.ref f19)))
    (l19 : K.lookup f19 = some ⟨oc19, od19, .func (PySem.W.fnOf "_law_cell" "_law_cell" (defArgs s__law_cell) (defBody s__law_cell) (defScope s__law_cell) .none kV19 dc19 pm19 an19 cd19 ct19), sl19⟩)
    (c19 : PySem.W.codeIn K cd19 "_law_cell" = true)
    (k19 : PySem.W.keepIn K (.ref f19) = true)
    (a20 : PySem.W.nsIn K mainGlobals "_law_digits" = some (some (.ref f20)))
    (l20 : K.lookup f20 = some ⟨oc20, od20, .func (PySem.W.fnOf "_law_digits" "_law_digits" (defArgs s__law_digits) (defBody s__law_digits) (defScope s__law_digits) .none kV20 dc20 pm20 an20 cd20 ct20), sl20⟩)
    (c20 : PySem.W.codeIn K cd20 "_law_digits" = true)
    (k20 : PySem.W.keepIn K (.ref f20) = true)
    (a21 : PySem.W.nsIn K mainGlobals "_law_strands" = some (some (.ref f21)))
    (l21 : K.lookup f21 = some ⟨oc21, od21, .func (PySem.W.fnOf "_law_strands" "_law_strands" (defArgs s__law_strands) (defBody s__law_strands) (defScope s__law_strands) .none kV21 dc21 pm21 an21 cd21 ct21), sl21⟩)
    (c21 : PySem.W.codeIn K cd21 "_law_strands" = true)
    (k21 : PySem.W.keepIn K (.ref f21) = true)
    (a22 : PySem.W.nsIn K mainGlobals "_law_divisors" = some (some (.ref f22)))
    (l22 : K.lookup f22 = some ⟨oc22, od22, .func (PySem.W.fnOf "_law_divisors" "_law_divisors" (defArgs s__law_divisors) (defBody s__law_divisors) (defScope s__law_divisors) .none kV22 dc22 pm22 an22 cd22 ct22), sl22⟩)
    (c22 : PySem.W.codeIn K cd22 "_law_divisors" = true)
    (k22 : PySem.W.keepIn K (.ref f22) = true)
    (a23 : PySem.W.nsIn K mainGlobals "_law_subsets" = some (some (.ref f23)))
    (l23 : K.lookup f23 = some ⟨oc23, od23, .func (PySem.W.fnOf "_law_subsets" "_law_subsets" (defArgs s__law_subsets) (defBody s__law_subsets) (defScope s__law_subsets) .none kV23 dc23 pm23 an23 cd23 ct23), sl23⟩)
    (c23 : PySem.W.codeIn K cd23 "_law_subsets" = true)
    (k23 : PySem.W.keepIn K (.ref f23) = true)
    (a24 : PySem.W.nsIn K mainGlobals "_law_supports" = some (some (.ref f24)))
    (l24 : K.lookup f24 = some ⟨oc24, od24, .func (PySem.W.fnOf "_law_supports" "_law_supports" (defArgs s__law_supports) (defBody s__law_supports) (defScope s__law_supports) .none kV24 dc24 pm24 an24 cd24 ct24), sl24⟩)
    (c24 : PySem.W.codeIn K cd24 "_law_supports" = true)
    (k24 : PySem.W.keepIn K (.ref f24) = true)
    (a25 : PySem.W.nsIn K mainGlobals "_law_groupings" = some (some (.ref f25)))
    (l25 : K.lookup f25 = some ⟨oc25, od25, .func (PySem.W.fnOf "_law_groupings" "_law_groupings" (defArgs s__law_groupings) (defBody s__law_groupings) (defScope s__law_groupings) .none kV25 dc25 pm25 an25 cd25 ct25), sl25⟩)
    (c25 : PySem.W.codeIn K cd25 "_law_groupings" = true)
    (k25 : PySem.W.keepIn K (.ref f25) = true)
    (a26 : PySem.W.nsIn K mainGlobals "_law_trees" = some (some (.ref f26)))
    (l26 : K.lookup f26 = some ⟨oc26, od26, .func (PySem.W.fnOf "_law_trees" "_law_trees" (defArgs s__law_trees) (defBody s__law_trees) (defScope s__law_trees) .none kV26 dc26 pm26 an26 cd26 ct26), sl26⟩)
    (c26 : PySem.W.codeIn K cd26 "_law_trees" = true)
    (k26 : PySem.W.keepIn K (.ref f26) = true)
    (a27 : PySem.W.nsIn K mainGlobals "_law_repeats" = some (some (.ref f27)))
    (l27 : K.lookup f27 = some ⟨oc27, od27, .func (PySem.W.fnOf "_law_repeats" "_law_repeats" (defArgs s__law_repeats) (defBody s__law_repeats) (defScope s__law_repeats) .none kV27 dc27 pm27 an27 cd27 ct27), sl27⟩)
    (c27 : PySem.W.codeIn K cd27 "_law_repeats" = true)
    (k27 : PySem.W.keepIn K (.ref f27) = true)
    (a28 : PySem.W.nsIn K mainGlobals "law" = some (some (.ref f28)))
    (l28 : K.lookup f28 = some ⟨oc28, od28, .func (PySem.W.fnOf "law" "law" (defArgs s_law) (defBody s_law) (defScope s_law) .none kV28 dc28 pm28 an28 cd28 ct28), sl28⟩)
    (c28 : PySem.W.codeIn K cd28 "law" = true)
    (k28 : PySem.W.keepIn K (.ref f28) = true)
    (e_MOST_STRANDS : PySem.W.nsIn K mainGlobals "MOST_STRANDS" = some (some (.int 6 tt_MOST_STRANDS)))
    (e_LARGEST_WEAR : PySem.W.nsIn K mainGlobals "LARGEST_WEAR" = some (some (.int 20 tt_LARGEST_WEAR)))
    (z_all : PySem.W.nsIn K mainGlobals "all" = some none)
    (z_bool : PySem.W.nsIn K mainGlobals "bool" = some none)
    (z_enumerate : PySem.W.nsIn K mainGlobals "enumerate" = some none)
    (z_int : PySem.W.nsIn K mainGlobals "int" = some none)
    (z_isinstance : PySem.W.nsIn K mainGlobals "isinstance" = some none)
    (z_len : PySem.W.nsIn K mainGlobals "len" = some none)
    (z_list : PySem.W.nsIn K mainGlobals "list" = some none)
    (z_max : PySem.W.nsIn K mainGlobals "max" = some none)
    (z_min : PySem.W.nsIn K mainGlobals "min" = some none)
    (z_range : PySem.W.nsIn K mainGlobals "range" = some none)
    (z_sorted : PySem.W.nsIn K mainGlobals "sorted" = some none)
    (z_str : PySem.W.nsIn K mainGlobals "str" = some none)
    (z_sum : PySem.W.nsIn K mainGlobals "sum" = some none)
    (z_tuple : PySem.W.nsIn K mainGlobals "tuple" = some none)
    (own : ∀ nm ∈ genNames, ∀ fb, mg nm = some (.ref fb) → LamX.OwnTab K fb h) : LamX.LawAtS l w K CX0 18 63 "script" mg fa h := by
  have e := hfa.symm.trans (PySem.W.mg_of X Gn a28)
  cases e
  have F1 := fun_mk (st := s_is_leaf) l1 c1 k1
  have b1 := F1.binds (ps := ["tree"]) fun _ _ _ _ _ _ us hl => match us, hl with | [_], _ => rfl
  have F2 := fun_mk (st := s_strands) l2 c2 k2
  have b2 := F2.binds (ps := ["tree"]) fun _ _ _ _ _ _ us hl => match us, hl with | [_], _ => rfl
  have F3 := fun_mk (st := s_strand_names) l3 c3 k3
  have b3 := F3.binds (ps := ["rig"]) fun _ _ _ _ _ _ us hl => match us, hl with | [_], _ => rfl
  have F4 := fun_mk (st := s_strengths_after) l4 c4 k4
  have b4 := F4.binds (ps := ["rig", "lifts"]) fun _ _ _ _ _ _ us hl => match us, hl with | [_, _], _ => rfl
  have F5 := fun_mk (st := s_divisors) l5 c5 k5
  have b5 := F5.binds (ps := ["tree", "names"]) fun _ _ _ _ _ _ us hl => match us, hl with | [_, _], _ => rfl
  have F6 := fun_mk (st := s_least_strength) l6 c6 k6
  have b6 := F6.binds (ps := ["load", "divisor"]) fun _ _ _ _ _ _ us hl => match us, hl with | [_, _], _ => rfl
  have F7 := fun_mk (st := s_unbroken) l7 c7 k7
  have b7 := F7.binds (ps := ["divided", "strengths", "load"]) fun _ _ _ _ _ _ us hl => match us, hl with | [_, _, _], _ => rfl
  have F8 := fun_mk (st := s_settle) l8 c8 k8
  have b8 := F8.binds (ps := ["rig", "names", "load", "lifts"]) fun _ _ _ _ _ _ us hl => match us, hl with | [_, _, _, _], _ => rfl
  have F9 := fun_mk (st := s_lifts_until_worn) l9 c9 k9
  have b9 := F9.binds (ps := ["strand", "divisor", "load"]) fun _ _ _ _ _ _ us hl => match us, hl with | [_, _, _], _ => rfl
  have F10 := fun_mk (st := s_repeats) l10 c10 k10
  have b10 := F10.binds (ps := ["rig", "load"]) fun _ _ _ _ _ _ us hl => match us, hl with | [_, _], _ => rfl
  have F11 := fun_mk (st := s_repeat_count) l11 c11 k11
  have b11 := F11.binds (ps := ["rig", "load"]) fun _ _ _ _ _ _ us hl => match us, hl with | [_, _], _ => rfl
  have F12 := fun_mk (st := s_trees_with) l12 c12 k12
  have b12 := F12.binds (ps := ["tree", "strand"]) fun _ _ _ _ _ _ us hl => match us, hl with | [_, _], _ => rfl
  have F13 := fun_mk (st := s_all_trees) l13 c13 k13
  have b13 := F13.binds (ps := ["strands"]) fun _ _ _ _ _ _ us hl => match us, hl with | [_], _ => rfl
  have F14 := fun_mk (st := s_best_tree) l14 c14 k14
  have b14 := F14.binds (ps := ["strands", "load"]) fun _ _ _ _ _ _ us hl => match us, hl with | [_, _], _ => rfl
  have F15 := fun_mk (st := s_is_between) l15 c15 k15
  have b15 := F15.binds (ps := ["value", "low", "high"]) fun _ _ _ _ _ _ us hl => match us, hl with | [_, _, _], _ => rfl
  have F16 := fun_mk (st := s_is_name) l16 c16 k16
  have b16 := F16.binds (ps := ["value"]) fun _ _ _ _ _ _ us hl => match us, hl with | [_], _ => rfl
  have F17 := fun_mk (st := s_is_strand) l17 c17 k17
  have b17 := F17.binds (ps := ["value"]) fun _ _ _ _ _ _ us hl => match us, hl with | [_], _ => rfl
  have F18 := fun_mk (st := s_is_rig) l18 c18 k18
  have b18 := F18.binds (ps := ["value"]) fun _ _ _ _ _ _ us hl => match us, hl with | [_], _ => rfl
  have F19 := fun_mk (st := s__law_cell) l19 c19 k19
  have b19 := F19.binds (ps := ["script", "index"]) fun _ _ _ _ _ _ us hl => match us, hl with | [_, _], _ => rfl
  have F20 := fun_mk (st := s__law_digits) l20 c20 k20
  have b20 := F20.binds (ps := ["script", "index", "count", "base"]) fun _ _ _ _ _ _ us hl => match us, hl with | [_, _, _, _], _ => rfl
  have F21 := fun_mk (st := s__law_strands) l21 c21 k21
  have b21 := F21.binds (ps := ["tree"]) fun _ _ _ _ _ _ us hl => match us, hl with | [_], _ => rfl
  have F22 := fun_mk (st := s__law_divisors) l22 c22 k22
  have b22 := F22.binds (ps := ["tree", "names"]) fun _ _ _ _ _ _ us hl => match us, hl with | [_, _], _ => rfl
  have F23 := fun_mk (st := s__law_subsets) l23 c23 k23
  have b23 := F23.binds (ps := ["items"]) fun _ _ _ _ _ _ us hl => match us, hl with | [_], _ => rfl
  have F24 := fun_mk (st := s__law_supports) l24 c24 k24
  have b24 := F24.binds (ps := ["rig", "subset", "load", "lifts"]) fun _ _ _ _ _ _ us hl => match us, hl with | [_, _, _, _], _ => rfl
  have F25 := fun_mk (st := s__law_groupings) l25 c25 k25
  have b25 := F25.binds (ps := ["items"]) fun _ _ _ _ _ _ us hl => match us, hl with | [_], _ => rfl
  have F26 := fun_mk (st := s__law_trees) l26 c26 k26
  have b26 := F26.binds (ps := ["leaves"]) fun _ _ _ _ _ _ us hl => match us, hl with | [_], _ => rfl
  have F27 := fun_mk (st := s__law_repeats) l27 c27 k27
  have b27 := F27.binds (ps := ["rig", "load"]) fun _ _ _ _ _ _ us hl => match us, hl with | [_, _], _ => rfl
  have F28 := fun_mk (st := s_law) l28 c28 k28
  have b28 := F28.binds (ps := ["script"]) fun _ _ _ _ _ _ us hl => match us, hl with | [_], _ => rfl
  let G : Gx K mg := Gx.mk f1 _ F1 b1 (PySem.W.mg_of X Gn a1) f2 _ F2 b2 (PySem.W.mg_of X Gn a2) f3 _ F3 b3 (PySem.W.mg_of X Gn a3) f4 _ F4 b4 (PySem.W.mg_of X Gn a4) f5 _ F5 b5 (PySem.W.mg_of X Gn a5) f6 _ F6 b6 (PySem.W.mg_of X Gn a6) f7 _ F7 b7 (PySem.W.mg_of X Gn a7) f8 _ F8 b8 (PySem.W.mg_of X Gn a8) f9 _ F9 b9 (PySem.W.mg_of X Gn a9) f10 _ F10 b10 (PySem.W.mg_of X Gn a10) f11 _ F11 b11 (PySem.W.mg_of X Gn a11) f12 _ F12 b12 (PySem.W.mg_of X Gn a12) f13 _ F13 b13 (PySem.W.mg_of X Gn a13) f14 _ F14 b14 (PySem.W.mg_of X Gn a14) f15 _ F15 b15 (PySem.W.mg_of X Gn a15) f16 _ F16 b16 (PySem.W.mg_of X Gn a16) f17 _ F17 b17 (PySem.W.mg_of X Gn a17) f18 _ F18 b18 (PySem.W.mg_of X Gn a18) f19 _ F19 b19 (PySem.W.mg_of X Gn a19) f20 _ F20 b20 (PySem.W.mg_of X Gn a20) f21 _ F21 b21 (PySem.W.mg_of X Gn a21) f22 _ F22 b22 (PySem.W.mg_of X Gn a22) f23 _ F23 b23 (PySem.W.mg_of X Gn a23) f24 _ F24 b24 (PySem.W.mg_of X Gn a24) f25 _ F25 b25 (PySem.W.mg_of X Gn a25) f26 _ F26 b26 (PySem.W.mg_of X Gn a26) f27 _ F27 b27 (PySem.W.mg_of X Gn a27) fa _ F28 b28 (PySem.W.mg_of X Gn a28) cc3 pp3 ⟨⟨_, _, _, _, _, _, _, _, rfl, l3, c3⟩⟩ cc16 pp16 ⟨⟨_, _, _, _, _, _, _, _, rfl, l16, c16⟩⟩ tt_MOST_STRANDS (PySem.W.mg_of X Gn e_MOST_STRANDS) tt_LARGEST_WEAR (PySem.W.mg_of X Gn e_LARGEST_WEAR) (PySem.W.mg_none_of X Gn z_all) (PySem.W.mg_none_of X Gn z_bool) (PySem.W.mg_none_of X Gn z_enumerate) (PySem.W.mg_none_of X Gn z_int) (PySem.W.mg_none_of X Gn z_isinstance) (PySem.W.mg_none_of X Gn z_len) (PySem.W.mg_none_of X Gn z_list) (PySem.W.mg_none_of X Gn z_max) (PySem.W.mg_none_of X Gn z_min) (PySem.W.mg_none_of X Gn z_range) (PySem.W.mg_none_of X Gn z_sorted) (PySem.W.mg_none_of X Gn z_str) (PySem.W.mg_none_of X Gn z_sum) (PySem.W.mg_none_of X Gn z_tuple)
  refine ⟨PySem.W.fnOf "law" "law" (defArgs s_law) (defBody s_law) (defScope s_law) .none kV28 dc28 pm28 an28 cd28 ct28,
    [(cc3, pp3), (cc16, pp16)], spLaw K [pp3, pp16], ?_, ?_, ?_, fun s v => .of_eq rfl, ?_, ?_⟩
  · intro p hp
    simp only [List.mem_cons, List.not_mem_nil, or_false] at hp
    rcases hp with rfl | rfl
    · exact own "strand_names" (by decide) f3 (PySem.W.mg_of X Gn a3) cc3 pp3 _ _ _ _ _ _ l3 rfl rfl lc3 lv3.1
    · exact own "is_name" (by decide) f16 (PySem.W.mg_of X Gn a16) cc16 pp16 _ _ _ _ _ _ l16 rfl rfl lc16 lv16.1
  · intro p hp
    simp only [List.mem_cons, List.not_mem_nil, or_false] at hp
    rcases hp with rfl | rfl
    · exact lp3
    · exact lp16
  · intro p hp
    simp only [List.mem_cons, List.not_mem_nil, or_false] at hp
    rcases hp with rfl | rfl
    · exact code_hd X lc3 lv3 lp3
    · exact code_hd X lc16 lv16 lp16
  · intro H a ns hl _ hT hS
    refine ⟨a, ns, rfl, hS, hl, fun p hp => ?_, fun _ => rfl⟩
    simp only [List.mem_cons, List.not_mem_nil, or_false] at hp
    rcases hp with e | e
    · first | rw [e] | rw [hp]
      exact ⟨#[], hT (cc3, pp3) (by simp), True.intro⟩
    · first | rw [e] | rw [hp]
      exact ⟨#[], hT (cc16, pp16) (by simp), True.intro⟩
  · intro base _ _ hTB
    have tb3 := hTB (cc3, pp3) (by simp)
    have tb16 := hTB (cc16, pp16) (by simp)
    exact ok_law G ⟨tb3.code, tb3.bm, tb3.gP⟩ ⟨tb16.code, tb16.bm, tb16.gP⟩
end Wr
open PySem PySem.W PyProof.Rows
set_option maxRecDepth 100000 in
set_option maxHeartbeats 0 in
theorem PySem.Challenge.cw_wornrigs_k17_whole_best_trees_holds : PySem.Challenge.rw_wornrigs_k17_whole_best_trees.Holds := by
  w_on; o_law; k_head; (case hw => w_witness2)
  k_fill
  refine Wr.walk_gens (l := PySem.Challenge.rw_wornrigs_k17_whole_best_trees) (n := 63) (k := 18) (x := "script") (CX := fun _ => L2.CX0) Wr.genNames rfl (by decide) rfl ⟨rfl, by decide, by decide⟩ (by decide +kernel) (fun w h Y => PySem.W.kIn_of Y) ?F (fun _ _ _ _ _ z => z)
  case F =>
    intro w mg fa h KX G hmg own
    refine' Wr.all_mk KX G hmg ?a1 ?l1 ?c1 ?k1 ?a2 ?l2 ?c2 ?k2 ?a3 ?l3 ?c3 ?k3 ?lc3 ?lv3 ?lp3 ?a4 ?l4 ?c4 ?k4 ?a5 ?l5 ?c5 ?k5 ?a6 ?l6 ?c6 ?k6 ?a7 ?l7 ?c7 ?k7 ?a8 ?l8 ?c8 ?k8 ?a9 ?l9 ?c9 ?k9 ?a10 ?l10 ?c10 ?k10 ?a11 ?l11 ?c11 ?k11 ?a12 ?l12 ?c12 ?k12 ?a13 ?l13 ?c13 ?k13 ?a14 ?l14 ?c14 ?k14 ?a15 ?l15 ?c15 ?k15 ?a16 ?l16 ?c16 ?k16 ?lc16 ?lv16 ?lp16 ?a17 ?l17 ?c17 ?k17 ?a18 ?l18 ?c18 ?k18 ?a19 ?l19 ?c19 ?k19 ?a20 ?l20 ?c20 ?k20 ?a21 ?l21 ?c21 ?k21 ?a22 ?l22 ?c22 ?k22 ?a23 ?l23 ?c23 ?k23 ?a24 ?l24 ?c24 ?k24 ?a25 ?l25 ?c25 ?k25 ?a26 ?l26 ?c26 ?k26 ?a27 ?l27 ?c27 ?k27 ?a28 ?l28 ?c28 ?k28 ?e_MOST_STRANDS ?e_LARGEST_WEAR ?z_all ?z_bool ?z_enumerate ?z_int ?z_isinstance ?z_len ?z_list ?z_max ?z_min ?z_range ?z_sorted ?z_str ?z_sum ?z_tuple own
    (case a1 => k_is)
    (case l1 => k_is)
    (case c1 => k_is)
    (case k1 => k_is)
    (case a2 => k_is)
    (case l2 => k_is)
    (case c2 => k_is)
    (case k2 => k_is)
    (case a3 => k_is)
    (case l3 => k_is)
    (case c3 => k_is)
    (case k3 => k_is)
    (case lc3 => k_is)
    (case lv3 => exact ⟨rfl, rfl, ⟨_, _, rfl⟩, ⟨_, _, rfl⟩, ⟨_, rfl⟩, _, _, rfl⟩)
    (case lp3 => kernel_rfl)
    (case a4 => k_is)
    (case l4 => k_is)
    (case c4 => k_is)
    (case k4 => k_is)
    (case a5 => k_is)
    (case l5 => k_is)
    (case c5 => k_is)
    (case k5 => k_is)
    (case a6 => k_is)
    (case l6 => k_is)
    (case c6 => k_is)
    (case k6 => k_is)
    (case a7 => k_is)
    (case l7 => k_is)
    (case c7 => k_is)
    (case k7 => k_is)
    (case a8 => k_is)
    (case l8 => k_is)
    (case c8 => k_is)
    (case k8 => k_is)
    (case a9 => k_is)
    (case l9 => k_is)
    (case c9 => k_is)
    (case k9 => k_is)
    (case a10 => k_is)
    (case l10 => k_is)
    (case c10 => k_is)
    (case k10 => k_is)
    (case a11 => k_is)
    (case l11 => k_is)
    (case c11 => k_is)
    (case k11 => k_is)
    (case a12 => k_is)
    (case l12 => k_is)
    (case c12 => k_is)
    (case k12 => k_is)
    (case a13 => k_is)
    (case l13 => k_is)
    (case c13 => k_is)
    (case k13 => k_is)
    (case a14 => k_is)
    (case l14 => k_is)
    (case c14 => k_is)
    (case k14 => k_is)
    (case a15 => k_is)
    (case l15 => k_is)
    (case c15 => k_is)
    (case k15 => k_is)
    (case a16 => k_is)
    (case l16 => k_is)
    (case c16 => k_is)
    (case k16 => k_is)
    (case lc16 => k_is)
    (case lv16 => exact ⟨rfl, rfl, ⟨_, _, rfl⟩, ⟨_, _, rfl⟩, ⟨_, rfl⟩, _, _, rfl⟩)
    (case lp16 => kernel_rfl)
    (case a17 => k_is)
    (case l17 => k_is)
    (case c17 => k_is)
    (case k17 => k_is)
    (case a18 => k_is)
    (case l18 => k_is)
    (case c18 => k_is)
    (case k18 => k_is)
    (case a19 => k_is)
    (case l19 => k_is)
    (case c19 => k_is)
    (case k19 => k_is)
    (case a20 => k_is)
    (case l20 => k_is)
    (case c20 => k_is)
    (case k20 => k_is)
    (case a21 => k_is)
    (case l21 => k_is)
    (case c21 => k_is)
    (case k21 => k_is)
    (case a22 => k_is)
    (case l22 => k_is)
    (case c22 => k_is)
    (case k22 => k_is)
    (case a23 => k_is)
    (case l23 => k_is)
    (case c23 => k_is)
    (case k23 => k_is)
    (case a24 => k_is)
    (case l24 => k_is)
    (case c24 => k_is)
    (case k24 => k_is)
    (case a25 => k_is)
    (case l25 => k_is)
    (case c25 => k_is)
    (case k25 => k_is)
    (case a26 => k_is)
    (case l26 => k_is)
    (case c26 => k_is)
    (case k26 => k_is)
    (case a27 => k_is)
    (case l27 => k_is)
    (case c27 => k_is)
    (case k27 => k_is)
    (case a28 => k_is)
    (case l28 => k_is)
    (case c28 => k_is)
    (case k28 => k_is)
    (case e_MOST_STRANDS => k_is)
    (case e_LARGEST_WEAR => k_is)
    (case z_all => k_is)
    (case z_bool => k_is)
    (case z_enumerate => k_is)
    (case z_int => k_is)
    (case z_isinstance => k_is)
    (case z_len => k_is)
    (case z_list => k_is)
    (case z_max => k_is)
    (case z_min => k_is)
    (case z_range => k_is)
    (case z_sorted => k_is)
    (case z_str => k_is)
    (case z_sum => k_is)
    (case z_tuple => k_is)
#print axioms PySem.Challenge.cw_wornrigs_k17_whole_best_trees_holds

