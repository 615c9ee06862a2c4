import PyProof.Rows.All
import Wide.All
import OpenK.AllK
import Wide.FinOn
import Open.SpecLaws
import KE.OsGo
import KE.KLam
import KE.SortKeyHeap
import HandS.ForSpec
import HandS.ForMost
import HandS.Lambda
import HandS.SortKw
import KE.KMinKey
import HandS.Codes
import HandS.IsInst
import HandS.DictEq
import HandS.DeepEq
import HandS.Conv
import HandS.More
import HandS.Walk
import PySem.Challenge.RW_handsback_s01_answers
section
set_option Elab.async false
set_option linter.all false
set_option maxRecDepth 100000
set_option maxHeartbeats 2500000
namespace Hb
open L2 PySem PySem.Spec PyProof.Rows LamX

/-- the lambda handed to sorted: one parameter, its body an attribute of it -/
def lamBody (x f : Str) (p1 p2 : Pos) : Expr := .Attribute (.Name x p1) f p2

structure LamOne (x : Str) (scope : Scope) : Prop where
  kind : scope.kind = .function
  co : (scope.isCoroutine = false)
  gen : (scope.isGenerator = false)
  nocell : ∀ y ∈ scope.names, y.2 ≠ .cell
  nofree : ∀ y ∈ scope.names, y.2 ≠ .free
  loc : (scope.names.lookup x = some .local)

theorem clo_nil {cells : List (Str × Addr)} {names : List (Str × NameKind)} (h : ∀ y ∈ names, y.2 ≠ .free) : cloFrom cells names [] = [] := by
  cases e : cloFrom cells names [] with
  | nil => rfl
  | cons p r =>
    have hm : p ∈ cloFrom cells names [] := by rw [e]; exact List.mem_cons_self
    rcases cloFrom_mem (n := p.1) hm with z | ⟨z, _⟩
    · cases z
    · exact absurd rfl (h _ z)

/-- what the key of an item is: the instance's attribute f, a tuple of two ints -/
def KeyAt (K : PySem.W.Frag) (H : Hp) (f : Str) (k : V → Int × Int) (x : V) : Prop :=
  ∃ (a C dx t : Addr) (fs : List (Str × V)), x = .ref a ∧ H a = some (.ins C dx fs) ∧ Cls K C ∧ NoAttr K C f ∧ fs.lookup f = some (.ref t) ∧ H t = some (.tup [.int (k x).1, .int (k x).2])

section
variable {X : Cx} {s : Shared} {H : Hp} {pins : List (Addr × Obj)} {σ : L2.St}

theorem key_call {A : Around} {q x fl : Str} {params : Arguments} {scope : Scope} {pm ctv : Value} {f c' : Addr} {p1 p2 : Pos} {k : V → Int × Int} {y : V} {v : Value} {h : Heap} {tk : Nat}
    (I : Inv X pins σ H s) (L : LamOne x scope) (hx : (x == ("__debug__" : Str)) = false) (hf : s.heap.get? f = some (PySem.W.kla_obj "<lambda>" q params (lamBody x fl p1 p2) scope [] pm c' ctv)) (hco : H c' = some (CodeO c' q))
    (hbind : ∀ u, bindArgs (PySem.W.kla_fn "<lambda>" q params (lamBody x fl p1 p2) scope [] pm (.ref c') ctv) ⟨[u], []⟩ = pure [(x, u)])
    (hb : ∀ env : Env, attributeBase (.Name x p1) fl env (eval (.Name x p1) env) = eval (.Name x p1) env)
    (hd : A.depth < recursionLimit) (r : RelV y v) (hk : KeyAt X.K H fl k y) (hh : ∀ b o, s.heap.get? b = some o → h.get? b = some o) :
    wpAny (model X.prog X.w) A (call (.ref f) [v]) (PySem.W.KeyPure (.tuple [.int (k y).1, .int (k y).2]) { s with heap := h, toks := tk }) (fun _ _ => False) { s with heap := h, toks := tk } := by
  obtain ⟨a, C, dx, t, fs, rfl, ha, hC, hN, hl, ht⟩ := hk
  obtain rfl : v = Value.ref a := r
  have I1 : Inv X pins σ H { s with heap := h, toks := tk } := I.kept hh
  obtain ⟨⟨oc, vs, tq, hoc, hdc, hvc⟩, _, _⟩ := I1.hok c' _ hco
  refine wpAny_call (PySem.W.kla_callFunE hd (hh _ _ hf) rfl L.co L.gen rfl ⟨c', oc, vs, tq, rfl, hoc, hdc, hvc⟩ ?_)
  rw [hbind]
  refine wpAny_pure (wpAny_newFunctionEnv L.nocell (fun z hz => ?_) (fun h₁ hns hsb => ⟨I1.nolimit.fresh _ hsb, ?_⟩) L.kind)
  · rw [(List.mem_singleton.mp hz)]
    exact L.loc
  have kp : ∀ b o, h.get? b = some o → h₁.get? b = some o := fun b o e => hsb.extBut b o (Nat.ne_of_lt (Heap.lt_size e)) (Heap.get?_push_of_some _ e)
  refine PySem.W.kla_codeExpr ?_
  have I2 := I1.kept (t' := tk + 1) kp
  obtain ⟨mA, O, rO, _, _, _⟩ := ins_get I2.hok ha
  obtain ⟨u, hu, ru⟩ := RelO.some_of (v := .ref t) (o := mA fl) (by rw [← hl]; exact rO fl)
  obtain rfl : u = Value.ref t := ru
  refine attr_of (hb _) (wpAny_Name (wpAny_loadName_local L.kind L.loc hns (v := .ref a) ?_ ?_) hx)
  · show List.lookup x ([(x, Value.ref a)] : List (Str × Value)).reverse = _
    simp [List.lookup]
  · refine get_map I2.kIn O (hC.get fl) hC.hd hN hu (handed_of (v := .ref t) rfl) ?_
    refine ⟨_, _, rfl, kp, ?_⟩
    obtain ⟨_, its, rv, o, eo, ec, n, ed⟩ := (show ObjOk X.prog X.w H h₁ t (.tup [.int (k (.ref a)).1, .int (k (.ref a)).2]) from I2.hok t _ ht)
    obtain ⟨u1, u2, rfl, r1, r2⟩ := vals2 rv
    obtain ⟨t1, rfl⟩ := r1
    obtain ⟨t2, rfl⟩ := r2
    exact Reads.tuple (as := []) eo ec ed (ReadsAll.cons (as := []) (bs := []) (.int _ _) (ReadsAll.cons (as := []) (bs := []) (.int _ _) .nil))

/-- the order of two items by their keys -/
def leK (k : V → Int × Int) (p q : V) : Bool := decide ((k p).1 < (k q).1 ∨ ((k p).1 = (k q).1 ∧ (k p).2 ≤ (k q).2))

theorem each_of_vals : ∀ {xs : List V} {us : List Value}, Vals xs us → PySem.W.EachIs (fun v x => RelV x v) us xs
  | _, _, .nil => .nil
  | _, _, .cons r t => .cons r (each_of_vals t)
theorem vals_of_each : ∀ {us : List Value} {xs : List V}, PySem.W.EachIs (fun v x => RelV x v) us xs → Vals xs us
  | _, _, .nil => .nil
  | _, _, .cons r t => .cons r (vals_of_each t)

theorem sorted_call {q x fl : Str} {params : Arguments} {scope : Scope} {pm ctv : Value} {f c' l : Addr} {p1 p2 : Pos} {k : V → Int × Int} {xs : List V} {Q : VK} {j : Nat}
    (I : Inv X pins σ H s) (L : LamOne x scope) (hx : (x == ("__debug__" : Str)) = false) (hf : s.heap.get? f = some (PySem.W.kla_obj "<lambda>" q params (lamBody x fl p1 p2) scope [] pm c' ctv)) (hco : H c' = some (CodeO c' q))
    (hbind : ∀ u, bindArgs (PySem.W.kla_fn "<lambda>" q params (lamBody x fl p1 p2) scope [] pm (.ref c') ctv) ⟨[u], []⟩ = pure [(x, u)])
    (hb : ∀ env : Env, attributeBase (.Name x p1) fl env (eval (.Name x p1) env) = eval (.Name x p1) env)
    (hr : Room j X.A) (hs : SqL X.K H l xs) (hk : ∀ y ∈ xs, KeyAt X.K H fl k y)
    (hQ : ∀ p, H p = none → Q (.ref p) (upd H p (.lst (xs.mergeSort (leK k))))) :
    wpAny (model X.prog X.w) X.A (call (.builtin "sorted") [.ref l] [(Str.ofString "key", .ref f)]) (EP X pins σ Q) X.xe s := by
  obtain ⟨its, rv, hl, hz⟩ := (I.list hs)
  refine PySem.W.sorted_key_data (β := V) (R := fun v x => RelV x v) (bs := xs) (f := .ref f) (b := false) (fun y => .tuple [.int (k y).1, .int (k y).2]) hl.isList (each_of_vals rv) (PySem.W.AllAlike.of fun _ _ => rfl)
    (PySem.W.Sortable.tuples fun _ => ⟨_, _, rfl⟩) hz (fun y hy => ?_) (ksk_s1 _ _) (fun _ => ksk_l1 _ _) (fun _ => ksk_t1 _ _)
    (fun v y ry hy h tk hh => key_call I L hx hf hco hbind hb ?_ ry (hk y hy) hh) fun out c h' tk hh fr ho hlen he => ?_
  · have := hr.un
    show X.A.units + 2 + 1 < _
    omega
  · have := hr.dp
    show X.A.depth < _
    omega
  · rw [PySem.W.dataLe_ii] at he
    have hl2 : (xs.mergeSort (leK k)).length ≤ sizeLine := by rw [List.length_mergeSort]; exact hz
    exact ⟨.ref _, upd H (s.heap.objs.size + 1) (.lst (xs.mergeSort (leK k))), I.laid hh (Nat.le_succ _) ⟨hl2, out, c, vals_of_each he, ho⟩, rfl, hQ _ (I.hok.fresh (Nat.le_succ _))⟩
end

/-- sorted(e, key=lambda x: x.f) -/
def tSortLam (K : PySem.W.Frag) (T : List (Addr × Str)) (fl : Str) (ta : TA) : TE := fun σ H Q => ta σ H fun vs H1 => ∃ (l : Addr) (xs : List V) (k : V → Int × Int), vs = [.ref l] ∧ Tabs T H1 ∧ SqL K H1 l xs ∧ (∀ y ∈ xs, KeyAt K H1 fl k y) ∧
  ∀ (H2 : Hp) (p : Addr), ExtN H1 H2 → Tabs T H2 → H2 p = none → Q (.ref p) (upd H2 p (.lst (xs.mergeSort (leK k))))

theorem KeyAt.ext {K : PySem.W.Frag} {H H' : Hp} {f : Str} {k : V → Int × Int} {x : V} (h : KeyAt K H f k x) (e : ExtN H H') : KeyAt K H' f k x := by
  obtain ⟨a, C, dx, t, fs, h1, h2, h3, h4, h5, h6⟩ := h
  exact ⟨a, C, dx, t, fs, h1, e _ _ h2 (fun ps z => by cases z), h3, h4, h5, e _ _ h6 (fun ps z => by cases z)⟩
theorem sqL_ext {K : PySem.W.Frag} {H H' : Hp} {a : Addr} {xs : List V} (h : SqL K H a xs) (e : ExtN H H') : SqL K H' a xs := by
  rcases (h) with (h | ⟨o, h⟩) | h
  · exact .inl (.inl (e _ _ h (fun ps z => by cases z)))
  · exact .inl (.inr ⟨o, e _ _ h (fun ps z => by cases z)⟩)
  · exact .inr h

theorem pe_sortLam {X : Cx} {T : List (Addr × Str)} {c P : Addr} {x fl : Str} {params : Arguments} {scope : Scope} {e : Expr} {ta : TA} {p p1 p2 lpos kpos pos : Pos} {j : Nat}
    (TB : TabB X.base X.mg c P) (hcode : X.env.code = .ref c) (hm : (P, X.env.qual ++ "<lambda>") ∈ T) (hu : ∀ z ∈ T, z.1 = P → z.2 = X.env.qual ++ "<lambda>") (hdef : defaultsOf params X.env = ([], []))
    (L : LamOne x scope) (hx : (x == ("__debug__" : Str)) = false)
    (hbind : ∀ (q : Str) (pm cv ctv u : Value), bindArgs (PySem.W.kla_fn "<lambda>" q params (lamBody x fl p1 p2) scope [] pm cv ctv) ⟨[u], []⟩ = pure [(x, u)])
    (hb : ∀ env : Env, attributeBase (.Name x p1) fl env (eval (.Name x p1) env) = eval (.Name x p1) env)
    (hr : Room j X.A) (hg : Gl X "sorted") (hms : X.mg "sorted" = none) (hv : bootBuiltins "sorted" = some (.builtin "sorted")) (ha : PA X [e] ta)
    (he : backTo pos (starEach [e] X.env) = (false, eval e X.env) :: backTo pos (starEach [] X.env) := by rfl) (hpl : (backTo pos (starEach [e] X.env)).any (·.1) = false := by rfl) :
    PE X (.Call (.Name "sorted" p) [e] [⟨some "key", .Lambda params (lamBody x fl p1 p2) scope lpos, kpos⟩] pos) (tSortLam X.K T fl ta) := by
  refine (⟨fun pins s σ H Q I h => ?_⟩)
  refine wpAny_Call_Name_kw (ld_blt I hg hms hv ?_)
  refine PyProof.Rows.callWith_kw (thn (ha.run pos pins s σ H _ I h) fun us s1 ⟨vs, H1, I1, r1, l, xs, k, ev, hT, hs, hk, q⟩ => ?_) he hpl rfl rfl
  subst ev
  obtain ⟨w1, rfl, rw1⟩ := vals1 r1
  obtain rfl : w1 = Value.ref l := rw1
  show wpAny _ _ (evalAll [do let v ← eval (.Lambda params (lamBody x fl p1 p2) scope lpos) X.env; standAt pos; pure v]) _ _ s1
  refine wpAny_evalAll_cons (wpAny_bind (lam_make2 I1 TB hcode hm hu hT hdef (fun y hy z => absurd z (L.nofree y hy)) fun f c' pm ctv H2 s2 I2 eN T2 hf hfn hfr hco => wpAny_bind (wpAny_standAt (wpAny_pure ?_))))
  refine wpAny_evalAll_nil ?_
  rw [clo_nil L.nofree] at hf
  exact sorted_call I2 L hx hf hco (fun u => hbind _ _ _ _ u) hb hr (sqL_ext hs eN) (fun y hy => (hk y hy).ext eN) fun p hp => q H2 p eN T2 hp
end Hb
end

section
set_option Elab.async false
set_option linter.all false
set_option maxRecDepth 100000
set_option maxHeartbeats 2500000
namespace Hb
open L2 PySem PySem.Spec PyProof.Rows

/-- what the running best is behind j items -/
def BestAt (val : Nat → Int) (j : Nat) (old : Array Value) : Prop :=
  (j = 0 ∧ old = #[]) ∨ ∃ (b : Nat) (t : Tok), b < j ∧ old = #[.int (val b) t, .int (val b) t] ∧ ∀ i, i < j → val i ≤ val b

section
variable {prog : Program} {w : World} {A : Around} {R : Result → Shared → Prop} {I S : Addr} {fp wr : List Addr} {n : Nat} {P : Nat → Value → Prop} {St : Nat → Heap → Prop} {val : Nat → Int} {dk : Str × Value}

theorem maxD_loop (W : Walks prog w A.in1 I fp wr n P St) (hval : ∀ i v, P i v → ∃ t, v = .int (val i) t) (hSf : S ∉ fp) :
    ∀ (left j : Nat) (s : Shared) (old : Array Value) (ep : Nat), n - j = left → j ≤ n → St j s.heap → BestAt val j old → s.heap.get? S = some (seqObj "list" old ep) →
    (n = 0 → ∀ h' tk, (∀ b o, b ∉ wr → b ≠ S → s.heap.get? b = some o → h'.get? b = some o) → R (.ok (.ret dk.2)) { s with heap := h', toks := tk }) →
    (∀ b t h' tk, b < n → (∀ i, i < n → val i ≤ val b) → (∀ c o, c ∉ wr → c ≠ S → s.heap.get? c = some o → h'.get? c = some o) → R (.ok (.ret (.int (val b) t))) { s with heap := h', toks := tk }) →
    codeAny (model prog w) A (.builtin "max.loop" ⟨[.ref I, .none, .ref S], [dk]⟩) R s := by
  have nameE : (toString "max" ++ toString ".loop" : String) = "max.loop" := by decide
  have hSw : S ∉ wr := fun z => hSf (W.sub _ z)
  intro left
  induction left with
  | zero =>
    intro j s old ep e1 e2 hst hb hS r0 r1
    have ej : j = n := by omega
    subst ej
    refine codeAny_builtin PySem.F.entry_max_loop ?_; rw [Around.under_plainId PySem.F.plain_max_loop _]
    refine wpAny_bind (m := seqItems? (.ref S)) (wpAny_seqItems hS rfl ?_)
    rcases hb with ⟨z, rfl⟩ | ⟨b, t, hbj, rfl, best⟩
    · refine wpAny_bind (m := tryCatch (pyNext (.ref I)) _) (wpAny_tryCatch (W.done s _ _ hst fun h' tk hk => ?_))
      exact wpAny_bind (wpAny_rule (wpAny_pure (r0 z h' tk fun b o h1 _ h3 => hk b o h1 h3)))
    · refine wpAny_bind (m := tryCatch (pyNext (.ref I)) _) (wpAny_tryCatch (W.done s _ _ hst fun h' tk hk => ?_))
      have hS' := hk S _ hSw hS
      refine wpAny_bind (m := updateSeq S fun _ => #[]) (wpAny_updateSeq hS' rfl (wpAny_bind (wpAny_letGo (wpAny_pure ?_))))
      exact r1 b t _ tk hbj best fun c o h1 h2 h3 => (Heap.get?_update_other _ _ (Ne.symm h2)).trans (hk c o h1 h3)
  | succ left ih =>
    intro j s old ep e1 e2 hst hb hS r0 r1
    have hlt : j < n := by omega
    refine codeAny_builtin PySem.F.entry_max_loop ?_; rw [Around.under_plainId PySem.F.plain_max_loop _]
    refine wpAny_bind (m := seqItems? (.ref S)) (wpAny_seqItems hS rfl ?_)
    rcases hb with ⟨z, rfl⟩ | ⟨b, t, hbj, rfl, best⟩
    · subst z
      refine wpAny_bind (m := tryCatch (pyNext (.ref I)) _) (wpAny_tryCatch (W.item 0 s _ _ hlt hst fun v h' tk hP hst' hk => ?_))
      have hS' := hk S _ hSw hS
      obtain ⟨t, rfl⟩ := hval _ _ hP
      refine wpAny_bind (m := updateSeq S fun _ => #[.int (val 0) t, .int (val 0) t]) (wpAny_updateSeq hS' rfl ?_)
      rw [nameE]
      obtain ⟨c2, hc2⟩ : ∃ c2, (h'.update S (Obj.mapSeq fun _ => #[.int (val 0) t, .int (val 0) t])).get? S = some (seqObj "list" #[.int (val 0) t, .int (val 0) t] c2) := ⟨_, get?_update_seq hS' fun _ => #[.int (val 0) t, .int (val 0) t]⟩
      refine wpAny_pure ⟨plainId_quiet PySem.F.plain_max_loop _, ih 1 _ _ c2 (by omega) (by omega) (W.frame _ _ _ hst' fun c hc o q => ?_) (.inr ⟨0, t, by omega, rfl, fun i hi => by rw [show i = 0 by omega]; exact Int.le_refl _⟩) hc2 (fun z => absurd z (by omega)) fun b t2 h2 tk2 hb2 best2 k2 => ?_⟩
      · exact (Heap.get?_update_other _ _ (fun z : S = c => hSf (by rw [z]; exact hc))).trans q
      · exact r1 b t2 h2 tk2 hb2 best2 fun c o q1 q2 q3 => k2 c o q1 q2 ((Heap.get?_update_other _ _ (Ne.symm q2)).trans (hk c o q1 q3))
    · refine wpAny_bind (m := tryCatch (pyNext (.ref I)) _) (wpAny_tryCatch (W.item j s _ _ hlt hst fun v h' tk hP hst' hk => ?_))
      have hS' := hk S _ hSw hS
      obtain ⟨t', rfl⟩ := hval _ _ hP
      refine wpAny_bind (m := tryCatch (holding [.int (val j) t', .int (val j) t'] (richCompare .Gt (.int (val j) t') (.int (val b) t) >>= _)) _) (wpAny_tryCatch (wpAny_holding (wpAny_bind (CmpOf.ints_gt (prog := prog) (w := w) (A := A.in1) (P := fun i v => ∃ t, v = .int (val i) t) val (fun _ _ q => q) j b _ _ _ _ _ ⟨t', rfl⟩ ⟨t, rfl⟩ ?_))))
      refine wpAny_bind (wpAny_holding (wpAny_truthy_bool (wpAny_bind (wpAny_letGo (wpAny_pure ?_)))))
      by_cases hg : val j > val b
      · simp only [hg, decide_true, if_true]
        refine wpAny_bind (m := updateSeq S fun _ => #[.int (val j) t', .int (val j) t']) (wpAny_updateSeq hS' rfl (wpAny_bind (wpAny_letGo ?_)))
        rw [nameE]
        obtain ⟨c2, hc2⟩ : ∃ c2, (h'.update S (Obj.mapSeq fun _ => #[.int (val j) t', .int (val j) t'])).get? S = some (seqObj "list" #[.int (val j) t', .int (val j) t'] c2) := ⟨_, get?_update_seq hS' fun _ => #[.int (val j) t', .int (val j) t']⟩
        refine wpAny_pure ⟨plainId_quiet PySem.F.plain_max_loop _, ih (j + 1) _ _ c2 (by omega) (by omega) (W.frame _ _ _ hst' fun c hc o q => ?_) (.inr ⟨j, t', by omega, rfl, fun i hi => ?_⟩) hc2 (fun z => absurd z (by omega)) fun b t2 h2 tk2 hb2 best2 k2 => ?_⟩
        · exact (Heap.get?_update_other _ _ (fun z : S = c => hSf (by rw [z]; exact hc))).trans q
        · by_cases hi2 : i = j
          · rw [hi2]; exact Int.le_refl _
          · have := best i (by omega); omega
        · exact r1 b t2 h2 tk2 hb2 best2 fun c o q1 q2 q3 => k2 c o q1 q2 ((Heap.get?_update_other _ _ (Ne.symm q2)).trans (hk c o q1 q3))
      · simp only [hg, decide_false, Bool.false_eq_true, if_false]
        refine (wpAny_bind (wpAny_letGo ?_))
        rw [nameE]
        refine wpAny_pure ⟨plainId_quiet PySem.F.plain_max_loop _, ih (j + 1) _ _ ep (by omega) (by omega) hst' (.inr ⟨b, t, by omega, rfl, fun i hi => ?_⟩) hS' (fun z => absurd z (by omega)) fun b t2 h2 tk2 hb2 best2 k2 => ?_⟩
        · by_cases hi2 : i = j
          · rw [hi2]; omega
          · exact best i (by omega)
        · exact r1 b t2 h2 tk2 hb2 best2 fun c o q1 q2 q3 => k2 c o q1 q2 (hk c o q1 q3)
end

theorem args_maxD (a v : Value) : argsOk "max" ⟨[a], [(Str.ofString "default", v)]⟩ := by unfold argsOk; kernel_rfl

section
variable {its : List Value} {ns : List Int} {l : Addr} {prog : Program} {w : World} {A : Around} {s : Shared} {Q E : Value → Shared → Prop}
theorem maxD_call (hh : A.handled = none) (hl : s.heap.IsList l its.toArray) (hi : IntsAre its ns) (dv : Value)
    (r0 : ns = [] → ∀ h' tk, (∀ b o, s.heap.get? b = some o → h'.get? b = some o) → Q dv { s with heap := h', toks := tk })
    (r1 : ∀ M t h' tk, M ∈ ns → (∀ a ∈ ns, a ≤ M) → (∀ b o, s.heap.get? b = some o → h'.get? b = some o) → Q (.int M t) { s with heap := h', toks := tk }) :
    wpAny (model prog w) A (call (.builtin "max") [.ref l] [(Str.ofString "default", dv)]) Q E s := by
  have nameE : (toString "max" ++ toString ".loop" : String) = "max.loop" := by decide
  have hll : l < s.heap.objs.size := by
    obtain ⟨_, e, _⟩ := hl
    exact Heap.lt_size e
  refine kmk_tree PySem.F.kind_max PySem.F.plain_max PySem.F.entry_max (args_maxD _ _) ?_
  refine wpAny_bind (m := Builtin.Builtins.bindParams "max" ["key", "default"] 0 ⟨[], [(Str.ofString "default", dv)]⟩) (wpAny_of_eq (show _ = pure [none, some dv] from rfl) ?_)
  refine (wpAny_bind (wpAny_pure ?_))
  refine (wpAny_bind (wpAny_pyIter_list hl ?_))
  refine (wpAny_bind (wpAny_newList ?_ (Nat.zero_le _)))
  rw [nameE]
  have hz := Heap.size_push s.heap { cls := .type "list_iterator", data := .fields #[.ref l, .int 0 0] }
  refine (wpAny_pure ⟨plainId_quiet PySem.F.plain_max_loop _, ?_⟩)
  have len := hi.length
  refine maxD_loop (val := fun i => ns.getD i 0) (Walks.list (prog := prog) (w := w) (A := A.in1) hh s.heap.objs.size l (Nat.ne_of_lt hll) its.toArray) (fun i v hv => ?_) (fun z => ?_) its.length 0 _ #[] 0 (by simp) (Nat.zero_le _) ⟨⟨_, Heap.get?_push_of_some _ (Heap.get?_push_size _ rfl), rfl, rfl⟩, (hl.push _).push _⟩ (.inl ⟨rfl, rfl⟩)
    (Heap.get?_push_size _ rfl) (fun z h' tk k => ?_) (fun b t h' tk hb best k => ?_)
  · have hv : its[i]? = some v := by simpa using hv
    obtain ⟨xs, e⟩ := (hi.allInts.items)
    have hn := hi.nums
    have hg : ns[i]? = some (numOf v) := by rw [← hn, List.getElem?_map, hv]; rfl
    obtain ⟨m, t, rfl⟩ := hi.all v (List.mem_of_getElem? hv)
    exact ⟨t, by rw [List.getD_eq_getElem?_getD, hg]; rfl⟩
  · rw [hz] at z
    rcases (List.mem_cons.mp z) with z | z
    · exact absurd z (Nat.ne_of_gt (Nat.lt_succ_self _))
    · rcases (List.mem_cons.mp z) with z | z
      · exact absurd hll (by rw [← z]; exact Nat.not_lt.mpr (Nat.le_succ _))
      · cases z
  · refine r0 (List.eq_nil_of_length_eq_zero (by simpa [len] using z)) h' tk fun b o e => k b o ?_ ?_ (Heap.get?_push_of_some _ (Heap.get?_push_of_some _ e))
    · intro q; exact absurd (List.mem_singleton.mp q) (Nat.ne_of_lt (Heap.lt_size e))
    · rw [hz]; exact Nat.ne_of_lt (Nat.lt_succ_of_lt (Heap.lt_size e))
  · have hb2 : b < ns.length := by simpa [← len] using hb
    refine r1 _ t h' tk ?_ (fun a ha => ?_) fun b o e => k b o ?_ ?_ (Heap.get?_push_of_some _ (Heap.get?_push_of_some _ e))
    · rw [List.getD_eq_getElem?_getD, List.getElem?_eq_getElem hb2]; exact List.getElem_mem hb2
    · obtain ⟨i, hi2, rfl⟩ := List.getElem_of_mem ha
      have := best i (by simpa [len] using hi2)
      rw [List.getD_eq_getElem?_getD, List.getElem?_eq_getElem hi2] at this
      exact this
    · intro q; exact absurd (List.mem_singleton.mp q) (Nat.ne_of_lt (Heap.lt_size e))
    · rw [hz]; exact Nat.ne_of_lt (Nat.lt_succ_of_lt (Heap.lt_size e))
end

/-- the greatest of some numbers, at least d where there is none -/
def IsMaxD (d : Int) (ns : List Int) (m : Int) : Prop := (ns = [] ∧ m = d) ∨ (m ∈ ns ∧ ∀ a ∈ ns, a ≤ m)
def rMaxD (K : PySem.W.Frag) : List V → List V → Hp → VK → Prop := fun vs zs H Q => ∃ (a : Addr) (ns : List Int) (d : Int), vs = [V.ref a] ∧ zs = [.int d] ∧ SqL K H a (ns.map V.int) ∧ ∀ m, IsMaxD d ns m → Q (.int m) H
theorem cr_maxDflt {X : Cx} (hc : X.calm = true) : CallRK X (.builtin "max") [Str.ofString "default"] (rMaxD X.K) := by
  rintro pins s σ H vs zs us ws Q I r rz ⟨a, ns, d, rfl, rfl, hs, q⟩
  obtain ⟨its, rv, hl, _⟩ := (I.list hs)
  obtain rfl := Vals.ref1 r
  obtain ⟨w1, rfl, t1, rfl⟩ := vals1 rz
  refine maxD_call (I.ok.hd hc) hl.isList rv.ints _ (fun e h' tk k => ⟨.int d, H, I.kept k, ⟨_, rfl⟩, q d (.inl ⟨e, rfl⟩)⟩) fun M t h' tk h1 h2 k => ⟨.int M, H, I.kept k, ⟨_, rfl⟩, q M (.inr ⟨h1, h2⟩)⟩
end Hb
end

section
set_option Elab.async false
set_option linter.all false
set_option maxRecDepth 100000
set_option maxHeartbeats 2500000
namespace Hb
open L2 PySem PySem.Spec PyProof.Rows LamX
open PySem.W (WData Codec OpenSpec WellAll ReadsW)

mutual
theorem dw_up {K : PySem.W.Frag} {H H' : Hp} (e : Same H H') : ∀ (d : WData) (v : V), Dw K H v d → Dw K H' v d
  | .none, _, x => by cases x; exact .non
  | .bool b, _, x => by cases x; exact .bl b
  | .int i, _, x => by cases x; exact .int i
  | .str s, _, x => by cases x; exact .str s
  | .bytes b, _, x => by
    cases x with
    | byt b => exact .byt b
  | .list ds, _, x => by
    cases x with
    | lst hs ha => exact .lst (e.seq hs) (dw_ups e ds _ ha)
  | .tuple ds, _, x => by
    cases x with
    | tup hs ha =>
      refine .tup ?_ (dw_ups e ds _ ha)
      rcases hs with (h | ⟨o, h⟩) | h
      · exact .inl (.inl (e _ _ h))
      · exact .inl <| .inr ⟨o, e _ _ h⟩
      · exact .inr h
  | .float _, _, x => by cases x
  | .dict _, _, x => by cases x
  | .bytearray _, _, x => by cases x
  | .set _, _, x => by cases x
  | .frozenset _, _, x => by cases x
  | .obj _ _, _, x => by cases x
theorem dw_ups {K : PySem.W.Frag} {H H' : Hp} (e : Same H H') : ∀ (ds : List WData) (vs : List V), DwAll K H vs ds → DwAll K H' vs ds
  | [], _, x => by cases x; exact .nil
  | d :: ds, _, x => by
    cases x with
    | cons h1 h2 => exact .cons (dw_up e d _ h1) (dw_ups e ds _ h2)
end

/-- what is tracked at the entry: the tables, and the arguments' own objects -/
def entH (ts : List Addr) (G : Hp) : Hp := fun b => if b ∈ ts then some (.tbl #[]) else G b
theorem entH_in {ts : List Addr} {G : Hp} {b : Addr} (h : b ∈ ts) : entH ts G b = some (.tbl #[]) := if_pos h
theorem entH_out {ts : List Addr} {G : Hp} {b : Addr} (h : b ∉ ts) : entH ts G b = G b := if_neg h

/-- what is known of the heap where the row's def is entered; cs: the makers of lambdas, each by its code object and its table -/
structure Entry (K : PySem.W.Frag) (mg : Str → Option Value) (cs : List (Addr × Addr)) (g : Heap) : Prop where
  frag : K.In g
  globs : g.Ns mainGlobals mg
  blts : ∃ mb, g.Ns builtinsNs mb ∧ ∀ x : Str, x ≠ "__name__" → mb x = bootBuiltins x
  lim : g.NoLimit
  tab : ∀ p ∈ cs, g.get? p.2 = some (PySem.W.tabObj #[])
  head : ∀ p ∈ cs, PySem.W.CodeHd g p.1 p.2
  out : ∀ p ∈ cs, K.lookup p.2 = none
  bmod : ∃ (m : Addr) (q : Obj), mg "__builtins__" = some (.ref m) ∧ m ≠ builtinsNs ∧ g.get? m = some q ∧ q.cls = .type "module" ∧ q.dict = some builtinsNs ∧ q.data = .plain
abbrev tabsOf (cs : List (Addr × Addr)) : List Addr := cs.map Prod.snd
section
variable {K : PySem.W.Frag} {mg : Str → Option Value} {cs : List (Addr × Addr)} {g : Heap} {G H : Hp}
theorem Entry.at_ (en : Entry K mg cs g) {b : Addr} (h : b ∈ tabsOf cs) : g.get? b = some (PySem.W.tabObj #[]) ∧ K.lookup b = none ∧ ∃ p ∈ cs, p.2 = b := by
  obtain ⟨p, hp, e⟩ := (List.mem_map.mp h)
  subst e
  exact ⟨en.tab p hp, en.out p hp, p, hp, rfl⟩
/-- of what kind the tracked objects are: tables of cs, or lists and tuples that are told to the object -/
structure Kinds (K : PySem.W.Frag) (cs : List (Addr × Addr)) (g : Heap) (H : Hp) : Prop where
  tabs : ∀ b ∈ tabsOf cs, H b = some (.tbl #[])
  rest : ∀ b u, H b = some u → b ∉ tabsOf cs → K.lookup b = none ∧ (∃ o vs n, g.get? b = some o ∧ o.data = .seq vs n) ∧ ∃ o v, u = .frz o v
/-- an object of another kind is not tracked, so it stands in the base -/
theorem Kinds.base (en : Entry K mg cs g) (kd : Kinds K cs g H) {b : Addr} {o : Obj} (e : g.get? b = some o) (n1 : ∀ vs n, o.data ≠ .seq vs n) (n2 : o.data ≠ .fields #[]) : (hidT g H).get? b = some o := by
  refine hidT_get e ?_
  cases q : H b with
  | none => rfl
  | some u =>
    by_cases m : b ∈ tabsOf cs
    · rw [(en.at_ m).1] at e
      cases e
      exact absurd rfl n2
    · obtain ⟨_, ⟨o', vs, n, e', d⟩, _⟩ := kd.rest b u q m
      rw [e'] at e
      cases e
      exact absurd d (n1 _ _)
theorem Kinds.frag (en : Entry K mg cs g) (kd : Kinds K cs g H) : K.In (hidT g H) := fun b o e => by
  refine hidT_get (en.frag b o e) ?_
  cases q : H b with
  | none => rfl
  | some u =>
    by_cases m : b ∈ tabsOf cs
    · rw [(en.at_ m).2.1] at e
      cases e
    · rw [(kd.rest b u q m).1] at e
      cases e
theorem Kinds.ns (en : Entry K mg cs g) (kd : Kinds K cs g H) {b : Addr} {m : Str → Option Value} (h : g.Ns b m) : (hidT g H).Ns b m := by
  obtain ⟨o, es, ep, e, d, r⟩ := h
  have n1 : ∀ vs n, o.data ≠ .seq vs n := fun vs n z => by rw [d] at z; cases z
  have n2 : o.data ≠ .fields #[] := fun z => by rw [d] at z; cases z
  exact ⟨o, es, ep, kd.base en e n1 n2, d, r⟩
theorem Kinds.mod (en : Entry K mg cs g) (kd : Kinds K cs g H) : L2.Mod K mg (hidT g H) := by
  obtain ⟨mb, h1, h2⟩ := en.blts
  obtain ⟨mc, h3, h4⟩ := en.lim
  exact ⟨kd.frag en, kd.ns en en.globs, ⟨mb, kd.ns en h1, h2⟩, ⟨mc, kd.ns en h3, h4⟩⟩
theorem Kinds.tabB (en : Entry K mg cs g) (kd : Kinds K cs g H) {p : Addr × Addr} (hp : p ∈ cs) : TabB (hidT g H) mg p.1 p.2 := by
  have tb := en.tab p hp
  obtain ⟨go, ges, gep, ge, gd, _⟩ := en.globs
  constructor
  · obtain ⟨o, us, f1, f2, f3, f4, f5, f6, f7, e, c1, c2, c3, more⟩ := en.head p hp
    refine ⟨o, us, f1, f2, f3, f4, f5, f6, f7, kd.base en e (fun vs n z => ?_) (fun z => ?_), c1, c2, c3, more⟩
    all_goals rw [c2] at z
    · cases z
    · cases z
      simp at c3
  · obtain ⟨m, q, q1, q2, q3, q4, q5, q6⟩ := en.bmod
    have a1 : m ≠ mainGlobals := by
      rintro rfl
      rw [ge] at q3
      cases q3
      rw [gd] at q6
      cases q6
    have a2 : m ≠ p.2 := by
      rintro rfl
      rw [tb] at q3
      cases q3
      cases q6
    refine ⟨m, q, q1, q2, a1, a2, kd.base en q3 (fun vs n z => ?_) (fun z => ?_), q4, q5, q6⟩
    all_goals rw [q6] at z; cases z
  · intro z
    rw [z, tb] at ge
    cases ge
    cases gd
/-- the arguments' objects and the tables together -/
theorem kinds_ent (en : Entry K mg cs g) {A : List Addr} (ar : ∀ a ∈ A, ArgOb g A a) : Kinds K cs g (entH (tabsOf cs) (argH K g A)) ∧ Same (argH K g A) (entH (tabsOf cs) (argH K g A)) := by
  have look : ∀ {b u}, argH K g A b = some u → b ∉ tabsOf cs ∧ K.lookup b = none ∧ (∃ o vs n, g.get? b = some o ∧ o.data = .seq vs n) ∧ ∃ o v, u = .frz o v := by
    intro b u q
    obtain ⟨n, vs, _, _, h⟩ := argH_is ar q
    have no : ∀ {o : Obj} {xs m}, g.get? b = some o → o.data = .seq xs m → b ∉ tabsOf cs := fun {o xs m} e d z => by
      rw [(en.at_ z).1] at e
      cases e
      cases d
    rcases h with ⟨e, rfl⟩ | ⟨e, rfl⟩
    · exact ⟨no e rfl, n, ⟨_, _, _, e, rfl⟩, _, _, rfl⟩
    · exact ⟨no e rfl, n, ⟨_, _, _, e, rfl⟩, _, _, rfl⟩
  refine ⟨⟨fun b m => entH_in m, fun b u q m => ?_⟩, fun b u q => (entH_out (look q).1).trans q⟩
  rw [entH_out m] at q
  exact (look q).2
end

theorem spec_callT {P : Program} {w : World} {K : PySem.W.Frag} {mg : Str → Option Value} {CX : CXT} {j : Nat} {fa : Addr} {cs : List (Addr × Addr)} {fd : FuncData} {ps : List Str} {sp : Sp} {s : Shared} {us : List Value} {ds : List WData} {rc : PySem.W.WRecords} {cl : Str → Option Addr} {due : WData}
    (en : Entry K mg cs s.heap) (gs : s.gens = #[]) (wl : WellAll w.params s.heap us ds) (pl : plWs ds = true) (wt : ∀ d ∈ ds, d.weight ≤ 1048576) (rm : Room j callerA)
    (F : ∀ b : Heap, K.In b → b.Ns mainGlobals mg → (∀ p ∈ cs, TabB b mg p.1 p.2) → FnOk P w K mg b CX j fa fd ps sp)
    (bi : ∀ (t : Shared) (vs : List Value), vs.length = ps.length → BindsTo t fd ⟨vs, []⟩ (ps.zip vs)) (ln : ds.length = ps.length)
    (pr : ∀ (H : Hp) (xs : List V), (∀ p ∈ cs, H p.2 = some (.tbl #[])) → DwAll K H xs ds → sp xs H (fun v H' => Dw K H' v due) fun _ _ _ => False)
    (nx : ∀ H e t, CX [] H s (fun _ _ _ => False) e t → False) :
    codeAny (model P w) callerA (.call (.ref fa) ⟨us, []⟩) (fun r t => ∃ u as, r = .ok (.ret u) ∧ ReadsW rc cl t.heap u due as ∧ OldK s.heap t.heap ∧ t.os = s.os ∧ AllBare t.gens) s := by
  obtain ⟨A, okA, ar⟩ := area_all ds us wl pl wt
  obtain ⟨kd, same⟩ := kinds_ent en ar
  have hok : HOk P w (entH (tabsOf cs) (argH K s.heap A)) s.heap := fun b u e => by
    by_cases m : b ∈ tabsOf cs
    · rw [entH_in m] at e
      cases e
      exact (en.at_ m).1
    · rw [entH_out m] at e
      exact (argH_ok (P := P) (w := w) ar b u e).stay (fun _ _ _ q => q) (fun c q => same c _ q) fun c xs q => same c _ q
  have args := dw_ups same _ _ (dw_all en.frag ar ds us wl pl okA)
  generalize entH (tabsOf cs) (argH K s.heap A) = H at kd hok args
  have bsz := Nat.le_of_eq (hidT_size s.heap H)
  have ent : Env0 P w K mg (hidT s.heap H) callerA [] s H := ⟨rfl, kd.mod en, fun _ _ e => of_hidT e, bsz, trivial, fun b z => (nomatch (show b ∈ ([] : List Addr) from z)), hok, .of_eq gs⟩
  have lv : us.length = ps.length := (wellAll_len wl).trans ln
  have tabs : ∀ p ∈ cs, H p.2 = some (.tbl #[]) := fun p hp => kd.tabs _ (List.mem_map.mpr ⟨p, hp, rfl⟩)
  have run := (F _ (kd.frag en) (kd.ns en en.globs) fun p hp => kd.tabB en hp).run callerA [] s H ⟨us, []⟩ us (us.map toV) _ _ rm ent (bi s us lv) (vals_toV okA) (pr H _ tabs args)
  refine codeAny_mono run fun r t x => ?_
  match r, x with
  | .error e, x => exact (nx H e t x).elim
  | .ok .next, x => exact x.elim
  | .ok .brk, x => exact x.elim
  | .ok .cont, x => exact x.elim
  | .ok (.ret u), ⟨v, H', os, bare, un, hok', rv, q⟩ =>
    -- what was there and is no table stands
    have stays : ∀ b o, b ∉ tabsOf cs → s.heap.get? b = some o → t.heap.get? b = some o := fun b o m e => by
      cases q2 : H b with
      | none => exact un.keep b o e q2 (fun z => nomatch (show b ∈ ([] : List Addr) from z)) (fun z => nomatch z)
      | some z =>
        obtain ⟨_, _, ob, z3, rfl⟩ := kd.rest b z q2 m
        have f1 := (hok b _ q2).1
        rw [e] at f1
        cases f1
        exact (hok' b _ (un.frzs b o _ q2)).1
    have grows : ∀ b ∈ tabsOf cs, ∃ more : Array Value, t.heap.get? b = some (PySem.W.tabObj more) := fun b m => by
      obtain ⟨more, z⟩ := un.tbls b #[] (kd.tabs b m)
      exact ⟨_, hok' b _ z⟩
    have kin : K.In t.heap := fun b o e => stays b o (fun m => by rw [(en.at_ m).2.1] at e; cases e) (en.frag b o e)
    obtain ⟨as, rd⟩ := Dw.reads (R := rc) (cl := cl) hok' kin due v u q rv
    refine ⟨u, as, rfl, rd, ⟨fun b o e => ?_, fun b o e => ?_⟩, os, bare⟩
    · by_cases m : b ∈ tabsOf cs
      · obtain ⟨more, z⟩ := grows b m
        obtain ⟨e1, _, p, hp, rfl⟩ := en.at_ m
        rw [e1] at e
        cases e
        refine .inr (.inl ⟨((en.head p hp).tab (en.tab p hp)).isCodeTable, rfl, #[], more, rfl, ?_⟩)
        rw [Array.empty_append]
        exact z
      · exact .inl (stays b o m e)
    · by_cases m : b ∈ tabsOf cs
      · exact ⟨_, (grows b m).choose_spec⟩
      · exact ⟨o, stays b o m e⟩

/-- the end of a Spec row whose def comes to lambdas: their makers' code objects and tables are found at the head -/
theorem walk_specT {r : OpenSpec} {j : Nat} {q : Program} {loose : List Str} {XP : (Str → Option Value) → Heap → Prop} {YP : World → Heap → Prop} {d : DefRec} {K : Params → PySem.W.Frag} {CX : CXT} {ps : List Str} {cs : List (Addr × Addr)} {sp : PySem.W.Frag → Sp}
    (wellS : r.wellSaid = true) (ln : r.args.length = ps.length) (rm : Room j callerA) (hY : ∀ (w : World) (g : Heap), YP w g → (K w.params).In g)
    (hx : ∀ y ∈ cs, ∃ (x : Str) (d' : DefRec), (recsOf q).find? (fun e => e.name == x) = some d' ∧ ∀ w : World, PySem.W.tabIn (K w.params) x = some y) (hn : ∀ (w : World), ∀ y ∈ cs, (K w.params).lookup y.2 = none)
    (F : ∀ (w : World) (mg : Str → Option Value) (fa : Addr) (g : Heap), YP w g → (K w.params).In g → g.Ns mainGlobals mg → mg d.name = some (.ref fa) → ∃ fd : FuncData,
      (∀ (t : Shared) (vs : List Value), vs.length = ps.length → BindsTo t fd ⟨vs, []⟩ (ps.zip vs)) ∧ ∀ b : Heap, (K w.params).In b → b.Ns mainGlobals mg → (∀ p ∈ cs, TabB b mg p.1 p.2) → FnOk r.prog w (K w.params) mg b CX j fa fd ps (sp (K w.params)))
    (pr : ∀ (K : PySem.W.Frag) (H : Hp) (vs : List V) (a : Codec.denoteAll r.args), (∀ p ∈ cs, H p.2 = some (.tbl #[])) → Codec.withinAll r.args a = true → Codec.app r.args r.asked a = true → DwAll K H vs (Codec.encAll r.args a) →
      sp K vs H (fun v H' => Dw K H' v (r.ret.enc (Codec.app r.args r.f a))) fun _ _ _ => False)
    (nx : ∀ (H : Hp) (s : Shared) (e : Value) (t : Shared), CX [] H s (fun _ _ _ => False) e t → False) : PySem.W.WalkOS q loose XP YP r d [] (fun f vs => PySem.call f vs) := by
  intro w s₀ s mg mb G Y fa o pm cd doc dV kV _ _ _ _ mgf gs args us as pre lay _ wl _
  obtain ⟨a, dec, ask⟩ := PySem.W.os_pre_some pre
  obtain ⟨rfl, wi⟩ := Codec.encAll_of_decAll r.args args a dec
  have kin := hY w _ Y
  obtain ⟨fd, bi, hF⟩ := F w mg fa _ Y kin G.T.g mgf
  have tabs : ∀ y ∈ cs, PySem.W.CodeHd s.heap y.1 y.2 ∧ s.heap.get? y.2 = some (PySem.W.tabObj #[]) := fun y hy => by
    obtain ⟨x, d', h1, h2⟩ := hx y hy
    exact PySem.W.tab_of (x := x) (c := y.1) (P := y.2) G.T kin h1 (h2 w)
  have en : Entry (K w.params) mg cs s.heap := ⟨kin, G.T.g, ⟨mb, G.T.b, G.T.builtins⟩, G.T.nolimit, fun p hp => (tabs p hp).2, fun p hp => (tabs p hp).1, hn w, G.T.bmain⟩
  refine PySem.W.enter_call (codeAny_mono (spec_callT (rc := []) (cl := classAt s₀.heap) (due := r.ret.enc (Codec.app r.args r.f a)) en gs wl (pl_encAll _ _) (layable_weight lay) rm hF bi ((encAll_len _ _).trans ln) (fun H vs t hS => pr (K w.params) H vs a t wi ask hS) fun H e t => nx H s e t) ?_)
  rintro _ t ⟨u, bs, rfl, h1, h2, h3, h4⟩
  refine ⟨.inl ⟨u, _, bs, rfl, fun _ => rfl, h1, ?_, fun z => by cases (show false = true from z)⟩, h2, h3, h4⟩
  exact (OpenSpec.post_iff wellS wi _ _).mpr rfl
end Hb
end

section
set_option Elab.async false
set_option linter.all false
set_option maxRecDepth 100000
set_option maxHeartbeats 2500000
namespace Hb
open L2 PySem PySem.Spec PyProof.Rows LamX
open Sq31 (Deed Act)

/-! ### the text by places -/
def top (i : Nat) : Stmt := PySem.Challenge.pw_handsback_s01_answers.main.body.getD i (.Pass ⟨0, 0, 0, 0⟩)

/-! ### deeds in the heap -/
/-- the addresses of the classes -/
structure Cs where
  M : Addr
  T : Addr
  H : Addr
abbrev I (n : Nat) : V := .int (n : Int)
def dF (t : Addr) (d : Deed) : List (Str × V) := match d.act with
  | .move x u v => [("number", I d.id), ("stamp", .ref t), ("thing", I x), ("under", I u), ("label", I v)]
  | .back i => [("number", I d.id), ("stamp", .ref t), ("target", I i), ("to_hold", .bl false)]
  | .again i => [("number", I d.id), ("stamp", .ref t), ("target", I i), ("to_hold", .bl true)]
def dC (c : Cs) (d : Deed) : Addr := match d.act with
  | .move _ _ _ => c.M
  | _ => c.T
def DeedAt (c : Cs) (H : Hp) (a : Addr) (d : Deed) : Prop := ∃ dx t, H a = some (.ins (dC c d) dx (dF t d)) ∧ H t = some (.tup [I d.stamp.count, I d.stamp.hand])
abbrev Row := Addr × Deed
def Rows (c : Cs) (H : Hp) (L : List Row) : Prop := ∀ p ∈ L, DeedAt c H p.1 p.2
def refs (L : List Row) : List V := L.map fun p => .ref p.1

theorem notTbl_ins {C dx : Addr} {fs : List (Str × V)} : ∀ ps, HO.ins C dx fs ≠ .tbl ps := fun _ z => by cases z
theorem notTbl_tup {xs : List V} : ∀ ps, HO.tup xs ≠ .tbl ps := fun _ z => by cases z
theorem notTbl_lst {xs : List V} : ∀ ps, HO.lst xs ≠ .tbl ps := fun _ z => by cases z
theorem notTbl_dK {xs : List (Key × V)} : ∀ ps, HO.dK xs ≠ .tbl ps := fun _ z => by cases z
theorem DeedAt.ext {c : Cs} {H H' : Hp} {a : Addr} {d : Deed} (h : DeedAt c H a d) (e : ExtN H H') : DeedAt c H' a d := by
  obtain ⟨dx, t, h1, h2⟩ := h
  exact ⟨dx, t, e _ _ h1 notTbl_ins, e _ _ h2 notTbl_tup⟩
theorem Rows.ext {c : Cs} {H H' : Hp} {L : List Row} (h : Rows c H L) (e : ExtN H H') : Rows c H' L := fun p hp => (h p hp).ext e
theorem lk_here {f : Str} {x : V} {more : List (Str × V)} : ((f, x) :: more).lookup f = some x := by simp [List.lookup]
theorem lk_past {f g : Str} {x : V} {more : List (Str × V)} (h : (f == g) = false) : ((g, x) :: more).lookup f = more.lookup f := by simp [List.lookup, h]
theorem dF_number (t : Addr) (d : Deed) : (dF t d).lookup ("number" : Str) = some (I d.id) := by
  unfold dF
  cases d.act <;> exact lk_here
theorem dF_stamp (t : Addr) (d : Deed) : (dF t d).lookup ("stamp" : Str) = some (.ref t) := by
  unfold dF
  cases d.act <;> exact (lk_past (by decide +kernel)).trans lk_here

/-! ### what the top has written -/
structure Txt (K : PySem.W.Frag) (mg : Str → Option Value) (c : Cs) : Prop where
  clM : Cls K c.M
  clT : Cls K c.T
  nMn : NoAttr K c.M "number"
  nMs : NoAttr K c.M "stamp"
  nMt : NoAttr K c.M "thing"
  nMu : NoAttr K c.M "under"
  nMl : NoAttr K c.M "label"
  nTn : NoAttr K c.T "number"
  nTs : NoAttr K c.T "stamp"
  nTt : NoAttr K c.T "target"
  nTh : NoAttr K c.T "to_hold"
  gM : mg "Move" = some (.ref c.M)
  gT : mg "Turn" = some (.ref c.T)
  caM : PySem.W.findIn K (.ref c.M) "__class__" = some (some (.builtin "object.__class__"))
  caT : PySem.W.findIn K (.ref c.T) "__class__" = some (some (.builtin "object.__class__"))
  csp : PySem.W.specialIn K (.builtin "object.__class__") "__get__" = some (some (.builtin "getset_descriptor.__get__"))
  ctk : PySem.W.takesIn K (.builtin "object.__class__") = some true
  cmM : PySem.W.mroIn K c.M (.type "object") = some true
  cmT : PySem.W.mroIn K c.T (.type "object") = some true
  iMM : PySem.W.kitOne K (.ref c.M) (.ref c.M) = some true
  iTM : PySem.W.kitOne K (.ref c.T) (.ref c.M) = some false
  iMT : PySem.W.kitOne K (.ref c.M) (.ref c.T) = some false
  iTT : PySem.W.kitOne K (.ref c.T) (.ref c.T) = some true
  bSorted : mg "sorted" = none
  bMax : mg "max" = none
  bIsi : mg "isinstance" = none
  bLen : mg "len" = none
  bRange : mg "range" = none

section
variable {K : PySem.W.Frag} {mg : Str → Option Value} {c : Cs}
theorem Txt.cl (T : Txt K mg c) (d : Deed) : Cls K (dC c d) := by
  unfold dC
  cases d.act
  · exact T.clM
  · exact T.clT
  · exact T.clT
theorem Txt.nNumber (T : Txt K mg c) (d : Deed) : NoAttr K (dC c d) "number" := by
  unfold dC
  cases d.act
  · exact T.nMn
  · exact T.nTn
  · exact T.nTn
theorem Txt.nStamp (T : Txt K mg c) (d : Deed) : NoAttr K (dC c d) "stamp" := by
  unfold dC
  cases d.act
  · exact T.nMs
  · exact T.nTs
  · exact T.nTs
theorem Txt.ty (T : Txt K mg c) {H : Hp} {a dx : Addr} {fs : List (Str × V)} {d : Deed} (h : H a = some (.ins (dC c d) dx fs)) : TyX K H (.ref a) (.ref (dC c d)) := by
  refine .base (.ins h (T.cl d) ?_ T.csp T.ctk ?_)
  · unfold dC
    cases d.act
    · exact T.caM
    · exact T.caT
    · exact T.caT
  · unfold dC
    cases d.act
    · exact T.cmM
    · exact T.cmT
    · exact T.cmT
theorem Txt.isM (T : Txt K mg c) (d : Deed) : PySem.W.kitOne K (.ref (dC c d)) (.ref c.M) = some d.isMove := by
  unfold dC Deed.isMove
  cases d.act
  · exact T.iMM
  · exact T.iTM
  · exact T.iTM
theorem Txt.isT (T : Txt K mg c) (d : Deed) : PySem.W.kitOne K (.ref (dC c d)) (.ref c.T) = some (!d.isMove) := by
  unfold dC Deed.isMove
  cases d.act
  · exact T.iMT
  · exact T.iTT
  · exact T.iTT
end

/-! ### the order of stamps -/
def leS (a b : Sq28.Stamp) : Bool := decide (a.count < b.count ∨ (a.count = b.count ∧ a.hand ≤ b.hand))
def leR (p q : Row) : Bool := leS p.2.stamp q.2.stamp
def sortL (L : List Row) : List Row := L.mergeSort leR

/-! ### promises -/
/-- what is new: tracked before at most as a table (there none is, so it's new) -/
def NewN (H : Hp) (p : Addr) : Prop := ∀ o, H p = some o → ∃ ps, o = .tbl ps
theorem NewN.of {H H1 : Hp} {p : Addr} (e : ExtN H H1) (h : H1 p = none) : NewN H p := fun o ho => by
  refine Classical.byContradiction fun z => ?_
  have := e p o ho fun ps q => z ⟨ps, q⟩
  rw [h] at this
  cases this
theorem NewN.ne {H : Hp} {p b : Addr} {o : HO} (n : NewN H p) (h : H b = some o) (ho : ∀ ps, o ≠ .tbl ps) : b ≠ p := fun z => by
  subst z
  obtain ⟨ps, e⟩ := n _ h
  exact ho ps e
theorem ExtN.new {H H1 : Hp} {p : Addr} {o : HO} (e : ExtN H H1) (h : H1 p = none) : ExtN H (upd H1 p o) := fun b q hb n => by
  have := e b q hb n
  rw [upd_ne (fun z => by rw [z, h] at this; cases this)]
  exact this
theorem Tabs.new {T : List (Addr × Str)} {H : Hp} {p : Addr} {o : HO} (t : Tabs T H) (h : H p = none) : Tabs T (upd H p o) := t.ext fun b q e => by
  rw [upd_ne (ne_of_none e h)]
  exact e

def spByStamps (K : PySem.W.Frag) (c : Cs) (T : List (Addr × Str)) : Sp := fun vs H Q _ => ∃ (l : Addr) (L : List Row), vs = [.ref l] ∧ SqL K H l (refs L) ∧ Rows c H L ∧ Tabs T H ∧
  ∀ (H' : Hp) (p : Addr), ExtN H H' → Tabs T H' → NewN H p → H' p = some (.lst (refs (sortL L))) → Q (.ref p) H'

/-- an item's key, read off the heap -/
def keyV (H : Hp) (x : V) : Int × Int := match x with
  | .ref a => match H a with
    | some (.ins _ _ fs) => match fs.lookup ("stamp" : Str) with
      | some (.ref t) => match H t with
        | some (.tup [.int i, .int j]) => (i, j)
        | _ => (0, 0)
      | _ => (0, 0)
    | _ => (0, 0)
  | _ => (0, 0)
theorem keyV_deed {c : Cs} {H : Hp} {a : Addr} {d : Deed} (h : DeedAt c H a d) : keyV H (.ref a) = ((d.stamp.count : Int), (d.stamp.hand : Int)) := by
  obtain ⟨dx, t, h1, h2⟩ := h
  unfold keyV
  simp only [h1, dF_stamp, h2]
theorem sort_refs {c : Cs} {H : Hp} {L : List Row} (h : Rows c H L) : (refs L).mergeSort (leK (keyV H)) = refs (sortL L) := by
  unfold refs sortL
  rw [List.map_mergeSort]
  intro p hp q hq
  unfold leR leS leK
  rw [keyV_deed (h p hp), keyV_deed (h q hq)]
  simp only [Int.ofNat_lt, Int.ofNat_le, Int.ofNat_inj]
end Hb
end

section
set_option Elab.async false
set_option linter.all false
set_option maxRecDepth 100000
set_option maxHeartbeats 2500000
namespace Hb
open L2 PySem PySem.Spec PyProof.Rows LamX
open Sq31 (Deed Act)
abbrev s_by_stamps : Stmt := top 3
abbrev lamName : Str := (("by_stamps" : Str) ++ ".<locals>.") ++ "<lambda>"
abbrev TT1 (P : Addr) : List (Addr × Str) := [(P, lamName)]
section
variable {P : Program} {w : World} {K : PySem.W.Frag} {mg : Str → Option Value} {base : Heap} {c : Cs}
theorem sc_by_stamps : FnScope ["deeds"] ["deeds"] (defScope s_by_stamps) := ⟨rfl, rfl, rfl, by decide +kernel, rfl, by decide +kernel, by decide +kernel⟩
theorem pure_by_stamps {Tb : List (Addr × Str)} {vs : List V} {H : Hp} {Q : VK} {E : XK} (T : Txt K mg c) (h : spByStamps K c Tb vs H Q E) :
    tRet (tSortLam K Tb "stamp" (tCons (tVar 0) tNil)) { nx := fun _ H' => Q .non H', rt := Q } (start ["deeds"] vs) H := by
  obtain ⟨l, L, rfl, hS, hR, hT, k⟩ := h
  refine ⟨_, rfl, l, refs L, keyV H, rfl, hT, hS, fun y hy => ?_, fun H2 p e t n => ?_⟩
  · obtain ⟨q, hq, rfl⟩ := List.mem_map.mp hy
    have hd := hR q hq
    have hk := keyV_deed hd
    obtain ⟨dx, t, h1, h2⟩ := hd
    refine ⟨q.1, _, dx, t, _, rfl, h1, T.cl _, T.nStamp _, dF_stamp _ _, ?_⟩
    rw [hk]
    exact h2
  · rw [sort_refs hR]
    exact k _ p (ExtN.new e n) (Tabs.new t n) (NewN.of e n) upd_same
theorem ok_by_stamps {f cA PA : Addr} {oc : Value} {od an : Option Addr} {osl : Array (Option Value)} {kV doc pm ct : Value} {k : Nat}
    (lk : K.lookup f = some ⟨oc, od, .func (PySem.W.fnOf "by_stamps" "by_stamps" (defArgs s_by_stamps) (defBody s_by_stamps) (defScope s_by_stamps) .none kV doc pm an (.ref cA) ct), osl⟩) (hcd : PySem.W.codeIn K (.ref cA) "by_stamps" = true)
    (TB : TabB base mg cA PA) (T : Txt K mg c) :
    FnOk P w K mg base C8.CX0 (k + 1) f (PySem.W.fnOf "by_stamps" "by_stamps" (defArgs s_by_stamps) (defBody s_by_stamps) (defScope s_by_stamps) .none kV doc pm an (.ref cA) ct) ["deeds"] (spByStamps K c (TT1 PA)) := by
  refine fn_of lk hcd sc_by_stamps (fun vs H Q E h => ?_) fun A outer s H vs Q E hr h => ⟨_, ?_, pure_by_stamps T h⟩
  · obtain ⟨l, L, rfl, _⟩ := h
    rfl
  · exact pss_one (ps_ret (pe_sortLam TB rfl (List.mem_singleton.mpr rfl) (fun z hz _ => by rw [List.mem_singleton.mp hz]; rfl) rfl ⟨rfl, rfl, rfl, by decide +kernel, by decide +kernel, rfl⟩ (by decide) (fun _ _ _ _ _ => rfl) (fun _ => rfl) hr rfl T.bSorted (by decide +kernel) (pa_cons (pv 0) pa_nil)))

/-! ### last_turns -/
theorem Tabs.write {T : List (Addr × Str)} {H : Hp} {p : Addr} {o o' : HO} (t : Tabs T H) (h : H p = some o) (h1 : ∀ ps, o ≠ .tbl ps) (h2 : ∀ c q, o ≠ CodeO c q) : Tabs T (upd H p o') := fun z hz => by
  obtain ⟨ps, a1, a2, a3⟩ := t z hz
  refine ⟨ps, ?_, a2, fun pos cv hc => ?_⟩
  · rw [upd_ne (fun e => by rw [e, h] at a1; exact h1 _ (Option.some.inj a1))]
    exact a1
  · obtain ⟨cc, e1, e2⟩ := a3 pos cv hc
    refine ⟨cc, e1, ?_⟩
    rw [upd_ne (fun e => by rw [e, h] at e2; exact h2 _ _ (Option.some.inj e2))]
    exact e2
theorem dK_code {kvs : List (Key × V)} : ∀ c q, HO.dK kvs ≠ CodeO c q := fun _ _ z => by unfold CodeO at z; cases z
theorem lst_code {xs : List V} : ∀ c q, HO.lst xs ≠ CodeO c q := fun _ _ z => by unfold CodeO at z; cases z
theorem ins_code {C dx : Addr} {fs : List (Str × V)} : ∀ c q, HO.ins C dx fs ≠ CodeO c q := fun _ _ z => by unfold CodeO at z; cases z
theorem ExtN.write {H H1 : Hp} {p : Addr} {o : HO} (e : ExtN H H1) (n : NewN H p) : ExtN H (upd H1 p o) := fun b q hb hn => by
  rw [upd_ne (n.ne hb hn)]
  exact e b q hb hn
/-- the last deed of each move's taking back and doing again -/
def turnStep (g : Nat → Option Bool) (d : Deed) : Nat → Option Bool := match d.act with
  | .back i => fun n => if n = i then some false else g n
  | .again i => fun n => if n = i then some true else g n
  | .move _ _ _ => g
def lastTurn (ds : List Deed) : Nat → Option Bool := ds.foldl turnStep fun _ => none
def TurnsAt (H : Hp) (p : Addr) (g : Nat → Option Bool) (m : Nat) : Prop := ∃ kvs : List (Key × V), H p = some (.dK kvs) ∧ kvs.length ≤ m ∧ ∀ n : Nat, valV kvs (Sum.inl (n : Int)) = (g n).map V.bl
def seconds (L : List Row) : List Deed := L.map (·.2)
def spLastTurns (K : PySem.W.Frag) (c : Cs) (T : List (Addr × Str)) : Sp := fun vs H Q _ => ∃ (l : Addr) (L : List Row), vs = [.ref l] ∧ SqL K H l (refs L) ∧ Rows c H L ∧ Tabs T H ∧ L.length ≤ 1000 ∧
  ∀ (H' : Hp) (p : Addr), ExtN H H' → Tabs T H' → NewN H p → TurnsAt H' p (lastTurn (seconds (sortL L))) 1000 → Q (.ref p) H'
theorem putK_len (kvs : List (Key × V)) (k : Key) (v : V) : (putK kvs k v).length ≤ kvs.length + 1 := by
  unfold putK
  split
  · rw [List.length_map]; omega
  · rw [List.length_append]; exact Nat.le_refl _
theorem turn_some {d : Deed} {j : Nat} (h : d.of_ = some j) : d.isMove = false ∧ (∀ t, dF t d = ([("number", I d.id), ("stamp", .ref t), ("target", I j), ("to_hold", .bl (!d.isBack))] : List (Str × V))) ∧ (∀ c : Cs, dC c d = c.T) ∧ ∀ g, turnStep g d = fun n => if n = j then some (!d.isBack) else g n := by
  obtain ⟨id, st, act⟩ := d
  cases act with
  | move x u v => cases h
  | back i => cases h; exact ⟨rfl, fun _ => rfl, fun _ => rfl, fun _ => rfl⟩
  | again i => cases h; exact ⟨rfl, fun _ => rfl, fun _ => rfl, fun _ => rfl⟩
theorem turn_none {d : Deed} (h : d.of_ = none) : d.isMove = true ∧ ∀ g, turnStep g d = g := by
  obtain ⟨id, st, act⟩ := d
  cases act with
  | move x u v => exact ⟨rfl, fun _ => rfl⟩
  | back i => cases h
  | again i => cases h
theorem refs_at {L : List Row} {i : Nat} {y : V} (hi : (refs L)[i]? = some y) : ∃ r, L[i]? = some r ∧ y = V.ref r.1 := by
  unfold refs at hi
  rw [List.getElem?_map] at hi
  cases q : L[i]? with
  | none => rw [q] at hi; cases hi
  | some r => rw [q] at hi; exact ⟨r, rfl, (Option.some.inj hi).symm⟩
theorem seconds_at {L : List Row} {i : Nat} {r : Row} (h : L[i]? = some r) : (seconds L)[i]? = some r.2 := by
  unfold seconds
  rw [List.getElem?_map, h]
  rfl
theorem sort_mem {L : List Row} {r : Row} : r ∈ sortL L ↔ r ∈ L := (List.mergeSort_perm L leR).mem_iff
theorem sort_len (L : List Row) : (sortL L).length = L.length := List.length_mergeSort ..
abbrev s_last_turns : Stmt := top 6
theorem sc_last_turns : FnScope ["deeds", "turned", "deed"] ["deeds"] (defScope s_last_turns) := ⟨rfl, rfl, rfl, by decide +kernel, rfl, by decide +kernel, by decide +kernel⟩
theorem ok_last_turns {f : Addr} {fd : FuncData} {Tb : List (Addr × Str)} {k : Nat} (F : L2.Fun K "last_turns" "last_turns" s_last_turns f fd) (T : Txt K mg c) (cB : C8.Cal P w K mg base k "by_stamps" (spByStamps K c Tb) []) :
    FnOk P w K mg base L2.CX0 (k + 1) f fd ["deeds"] (spLastTurns K c Tb) := by
  refine F.ok sc_last_turns (fun vs H Q E h => ?_) fun cdv A outer s H vs Q E hr h => ⟨_, pss_cons (ps_set (i := 1) sc_last_turns.nd rfl (.inl rfl) pe_dnewK)
    (pss_cons (ps_for PassesOwn.never rfl (pi_list (C8.pe_c cB hr (Nat.le_refl _) rfl (pa_cons (pv 0) pa_nil))) (pg_name (i := 2) sc_last_turns.nd rfl (.inl rfl))
      (pss_one (ps_if (pt_val (pe_callB call_isi (by rfl) T.bIsi (by decide +kernel) (pa_cons (pv 2) (pa_cons (pe_glob (v := .ref c.T) rfl T.gT rfl) pa_nil))))
        (pss_one (ps_dput (hu_of hr) (pv 1) (pe_fld (pv 2) rfl) (pe_fld (pv 2) rfl) rfl)) pss_nil)))
    (pss_one (ps_ret ((pv 1))))), ?_⟩
  · obtain ⟨l, L, rfl, _⟩ := h
    rfl
  obtain ⟨l, L, rfl, hS, hR, hT, hlen, k⟩ := h
  intro d hd
  have e1 : ExtN H (upd H d (.dK [])) := ExtN.new (ExtN.refl H) hd
  refine ⟨_, rfl, l, L, rfl, sqL_ext hS e1, hR.ext e1, Tabs.new hT hd, fun H2 p e2 t2 n2 hp => ?_⟩
  have e3 : ExtN H H2 := e1.trans e2
  have nd : NewN H d := NewN.of (ExtN.refl H) hd
  have hd2 : H2 d = some (.dK []) := e2 _ _ upd_same notTbl_dK
  have hpd : p ≠ d := fun z => by
    rw [z, hd2] at hp
    cases hp
  refine ⟨p, rfl, ⟨_, SqL.of hp⟩, for_list (K := K) (a := p) (xs := refs (sortL L)) (fun i σ H' => ∃ v : Option V, σ = [some (.ref l), some (.ref d), v] ∧ ExtN H H' ∧ Tabs Tb H' ∧ H' p = some (.lst (refs (sortL L))) ∧ TurnsAt H' d (lastTurn ((seconds (sortL L)).take i)) i)
    ⟨none, rfl, e3, t2, hp, [], hd2, Nat.le_refl _, fun n => rfl⟩ (fun i σ H' _ ⟨_, _, _, _, q, _⟩ => SqL.of q) ?_ ?_⟩
  · rintro i y σ H' hi ⟨v, rfl, e4, t4, hp4, kvs, hk, hl, hv⟩
    obtain ⟨r, hr1, rfl⟩ := refs_at hi
    have hmem : r ∈ L := sort_mem.mp (List.mem_of_getElem? hr1)
    have step : lastTurn ((seconds (sortL L)).take (i + 1)) = turnStep (lastTurn ((seconds (sortL L)).take i)) r.2 := by
      unfold lastTurn
      rw [List.take_add_one, seconds_at hr1, List.foldl_append]
      rfl
    have ilt : i < L.length := by
      have := (List.getElem?_eq_some_iff.mp hr1).1
      rw [sort_len] at this
      exact this
    obtain ⟨dx, t, h1, h2⟩ := (hR.ext e4) r hmem
    refine ⟨_, rfl, _, _, _, _, _, rfl, .own c.T, T.ty h1, T.isT r.2, _, rfl, ?_⟩
    cases ho : r.2.of_ with
    | none =>
      obtain ⟨z1, z2⟩ := turn_none ho
      rw [z1]
      refine iteF ⟨some (.ref r.1), rfl, e4, t4, hp4, kvs, hk, by omega, fun n => ?_⟩
      rw [step, z2]
      exact hv n
    | some j =>
      obtain ⟨z1, z2, z3, z4⟩ := turn_some ho
      rw [z1]
      rw [z2, z3] at h1
      refine iteT ⟨_, rfl, r.1, c.T, dx, _, _, rfl, h1, T.clT, T.nTh, (lk_past (by decide +kernel)).trans ((lk_past (by decide +kernel)).trans ((lk_past (by decide +kernel)).trans lk_here)), _, rfl, _, rfl, r.1, c.T, dx, _, _, rfl, h1, T.clT, T.nTt, (lk_past (by decide +kernel)).trans ((lk_past (by decide +kernel)).trans lk_here), d, _, rfl, DPut.k (k := Sum.inl (j : Int)) hk (small1000 (by omega)), ?_⟩
      refine ⟨some (.ref r.1), rfl, ExtN.write e4 nd, Tabs.write t4 hk notTbl_dK dK_code, by rw [upd_ne hpd]; exact hp4, _, upd_same, ?_, fun n => ?_⟩
      · have := putK_len kvs (Sum.inl (j : Int)) (.bl (!r.2.isBack))
        omega
      · rw [valV_put, step, z4]
        dsimp only
        by_cases hn : n = j
        · rw [if_pos (by rw [hn]), if_pos hn]
          rfl
        · rw [if_neg (fun z => hn (by injection z with z; exact Int.ofNat.inj z)), if_neg hn]
          exact hv n
  · rintro σ H' ⟨v, rfl, e4, t4, hp4, kvs, hk, hl, hv⟩
    have hll : (refs (sortL L)).length = L.length := by unfold refs; rw [List.length_map, sort_len]
    refine ⟨_, rfl, k H' d e4 t4 nd ⟨kvs, hk, by omega, fun n => ?_⟩⟩
    rw [hv n, List.take_of_length_le (by unfold seconds; rw [List.length_map, sort_len, hll]; exact Nat.le_refl _)]
end
end Hb
end

section
set_option Elab.async false
set_option linter.all false
set_option maxRecDepth 100000
set_option maxHeartbeats 2500000
namespace Hb
open L2 PySem PySem.Spec PyProof.Rows LamX
open Sq31 (Deed Act)
section
variable {P : Program} {w : World} {K : PySem.W.Frag} {mg : Str → Option Value} {base : Heap} {c : Cs}
theorem extN_of_same {H H' : Hp} (e : Same H H') : ExtN H H' := fun b o h _ => e b o h
theorem same_new {H H1 : Hp} {p : Addr} {o : HO} (e : Same H H1) (h : H1 p = none) : Same H (upd H1 p o) := fun b q hb => by
  have := e b q hb
  rw [upd_ne (ne_of_none this h)]
  exact this
theorem same_write {H H1 : Hp} {p : Addr} {o : HO} (e : Same H H1) (h : H p = none) : Same H (upd H1 p o) := fun b q hb => by
  rw [upd_ne (ne_of_none hb h)]
  exact e b q hb

/-! ### is_move_of -/
def ownMove (k : Nat) (d : Deed) : Bool := d.isMove && d.stamp.hand == k
def spIsMoveOf (c : Cs) : Sp := fun vs H Q _ => ∃ (k : Nat) (a : Addr) (d : Deed), vs = [I k, .ref a] ∧ DeedAt c H a d ∧ Q (.bl (ownMove k d)) H
abbrev s_is_move_of : Stmt := top 5
theorem sc_is_move_of : FnScope ["desk", "deed"] ["desk", "deed"] (defScope s_is_move_of) := ⟨rfl, rfl, rfl, by decide +kernel, rfl, by decide +kernel, by decide +kernel⟩
theorem ok_is_move_of {f : Addr} {fd : FuncData} {k : Nat} (F : L2.Fun K "is_move_of" "is_move_of" s_is_move_of f fd) (T : Txt K mg c) : FnOk P w K mg base L2.CX0 (k + 1) f fd ["desk", "deed"] (spIsMoveOf c) := by
  refine F.ok sc_is_move_of (fun vs H Q E h => ?_) fun cdv A outer s H vs Q E hr h => ⟨_, pss_one (ps_ret (pe_and (pe_callB call_isi (by rfl) T.bIsi (by decide +kernel) (pa_cons (pv 1) (pa_cons (pe_glob (v := .ref c.M) rfl T.gM rfl) pa_nil)))
      (pe_one (pe_cmpR op_eq (pe_ix ix_tup (pe_fld (pv 1) rfl) pe_int (fun _ _ => rfl)) (pv 0) (nomark _))))), ?_⟩
  · obtain ⟨n, a, d, rfl, _⟩ := h
    rfl
  obtain ⟨n, a, d, rfl, ⟨dx, t, h1, h2⟩, q⟩ := h
  refine ⟨_, rfl, _, _, _, _, _, rfl, .own c.M, T.ty h1, T.isM d, _, rfl, ?_⟩
  unfold ownMove at q
  cases hm : d.isMove with
  | false =>
    rw [hm] at q
    exact iteF q
  | true =>
    rw [hm] at q
    refine iteT ⟨_, rfl, a, _, dx, _, _, rfl, h1, T.cl d, T.nStamp d, dF_stamp t d, t, _, _, _, rfl, rfl, SqT.of h2, atI_nat (j := 1) rfl, _, rfl, rfl, ?_⟩
    have e : decide (I d.stamp.hand = I n) = (d.stamp.hand == n) := by
      rw [Bool.eq_iff_iff]
      simp [I]
      omega
    rw [e]
    exact q

/-! ### stamp_for -/
def maxCount (ds : List Deed) : Nat := ds.foldl (fun (m : Nat) d => max m d.stamp.count) 0
theorem maxCount_ge : ∀ (ds : List Deed) (m : Nat), m ≤ ds.foldl (fun (m : Nat) d => max m d.stamp.count) m ∧ (∀ d ∈ ds, d.stamp.count ≤ ds.foldl (fun (m : Nat) d => max m d.stamp.count) m) ∧ (ds.foldl (fun (m : Nat) d => max m d.stamp.count) m = m ∨ ∃ d ∈ ds, d.stamp.count = ds.foldl (fun (m : Nat) d => max m d.stamp.count) m)
  | [], m => ⟨Nat.le_refl _, fun d h => (nomatch h), .inl rfl⟩
  | d :: r, m => by
    obtain ⟨h1, h2, h3⟩ := maxCount_ge r (max m d.stamp.count)
    rw [List.foldl_cons]
    refine ⟨Nat.le_trans (Nat.le_max_left _ _) h1, fun e he => ?_, ?_⟩
    · rcases (List.mem_cons.mp he) with rfl | he
      · exact Nat.le_trans (Nat.le_max_right _ _) h1
      · exact h2 e he
    · rcases h3 with h3 | ⟨e, he, h3⟩
      · by_cases hm : d.stamp.count ≤ m
        · left; rw [h3]; exact Nat.max_eq_left hm
        · right; exact ⟨d, List.mem_cons_self, by rw [h3]; exact (Nat.max_eq_right (by omega)).symm⟩
      · exact .inr ⟨e, List.mem_cons_of_mem _ he, h3⟩
theorem maxCount_is {ds : List Deed} {m : Int} (h : IsMaxD 0 (ds.map fun d => (d.stamp.count : Int)) m) : m = (maxCount ds : Int) := by
  obtain ⟨_, h2, h3⟩ := maxCount_ge ds 0
  unfold maxCount
  rcases h with ⟨h, rfl⟩ | ⟨hm, hall⟩
  · have : ds = [] := by simpa using h
    subst this
    rfl
  · obtain ⟨d, hd, rfl⟩ := List.mem_map.mp hm
    have k1 := h2 d hd
    rcases h3 with h3 | ⟨e, he, h3⟩
    · omega
    · have := hall (e.stamp.count : Int) (List.mem_map.mpr ⟨e, he, rfl⟩)
      omega
def spStampFor (K : PySem.W.Frag) (c : Cs) : Sp := fun vs H Q _ => ∃ (k : Nat) (l : Addr) (L : List Row), vs = [I k, .ref l] ∧ SqL K H l (refs L) ∧ Rows c H L ∧ L.length ≤ 1000 ∧
  ∀ (H' : Hp) (p : Addr), Same H H' → H p = none → H' p = some (.tup [I (maxCount (seconds L) + 1), I k]) → Q (.ref p) H'
abbrev s_stamp_for : Stmt := top 4
theorem sc_stamp_for : FnScope ["desk", "deeds", "greatest", "deed"] ["desk", "deeds"] (defScope s_stamp_for) := ⟨rfl, rfl, rfl, by decide +kernel, rfl, by decide +kernel, by decide +kernel⟩
theorem ok_stamp_for {f : Addr} {fd : FuncData} {k : Nat} (F : L2.Fun K "stamp_for" "stamp_for" s_stamp_for f fd) (T : Txt K mg c) : FnOk P w K mg base L2.CX0 (k + 1) f fd ["desk", "deeds"] (spStampFor K c) := by
  refine F.ok sc_stamp_for (fun vs H Q E h => ?_) fun cdv A outer s H vs Q E hr h => ⟨_, pss_cons (ps_set (i := 2) sc_stamp_for.nd rfl (.inl rfl)
      (pe_callBK (cr_maxDflt rfl) (by rfl) T.bMax (by decide +kernel) (by exact pa_cons (pe_lc (own := [("deed", 3)]) (g := gName 3) (tt := tYes) (te := tOp (rIxT K) (tFld K (tVar 3) "stamp") (tC (.int 0))) rfl sc_stamp_for.nd (pi_list (pv 1)) (blkOk_by (own := [("deed", 3)]) (N := ["desk", "deeds", "greatest", "deed"]) (sc := defScope s_stamp_for) (by decide +kernel))
        (fun _ _ _ _ _ => pg_name (i := 3) sc_stamp_for.nd rfl (Or.inl rfl)) (fun _ _ _ _ _ => pts_nil) (fun _ _ _ _ _ => pe_ix ix_tup (pe_fld (pv 3) rfl) pe_int (fun _ _ => rfl))) pa_nil) (by exact pk_cons pe_int pk_nil)))
    (pss_one (ps_ret (pe_tup (pa_cons (pe_op op_add (pv 2) pe_int) (pa_cons (pv 0) pa_nil))))), ?_⟩
  · obtain ⟨n, l, L, rfl, _⟩ := h
    rfl
  obtain ⟨n, l, L, rfl, hS, hR, hl, q⟩ := h
  refine ⟨_, rfl, l, rfl, ⟨_, hS⟩, fun D hD => lc_list (K := K) (a := l) (xs := refs L) (fun i H' => Same H H' ∧ H' D = some (.lst (((seconds L).take i).map fun d => I d.stamp.count)))
    ⟨same_new (Same.refl H) hD, upd_same⟩ (fun i H' _ p => p.1.seq hS) ?_ ?_⟩
  · rintro i y H' hi ⟨e, hd⟩
    obtain ⟨r, hr1, rfl⟩ := refs_at hi
    obtain ⟨dx, t, h1, h2⟩ := (hR.ext (extN_of_same e)) r (List.mem_of_getElem? hr1)
    have ilt : i < L.length := (List.getElem?_eq_some_iff.mp hr1).1
    refine ⟨rfl, _, rfl, r.1, _, dx, _, _, rfl, h1, T.cl r.2, T.nStamp r.2, dF_stamp t r.2, t, _, _, _, rfl, rfl, SqT.of h2, atI_nat (j := 0) rfl, _, hd, ?_, same_write e hD, ?_⟩
    · rw [(List.length_map), List.length_take]
      exact small1000 (by omega)
    · rw [upd_same, List.take_add_one, seconds_at hr1, List.map_append]
      rfl
  · rintro H' ⟨e, hd⟩
    have e1 : (seconds L).take (refs L).length = seconds L := List.take_of_length_le (by unfold seconds refs; rw [List.length_map, List.length_map]; exact Nat.le_refl _)
    rw [e1] at hd
    refine ⟨D, (seconds L).map (fun d => (d.stamp.count : Int)), 0, rfl, rfl, SqL.of (by rw [hd, List.map_map]; rfl), fun m hm => ?_⟩
    rw [maxCount_is hm]
    refine ⟨_, rfl, _, _, rfl, rfl, _, rfl, (by show 2 ≤ sizeLine; decide), fun p hp => ?_⟩
    exact q _ p (same_new e hp) (e.free hp) upd_same
end
end Hb
end

section
set_option Elab.async false
set_option linter.all false
set_option maxRecDepth 100000
set_option maxHeartbeats 2500000
namespace Hb
open L2 PySem PySem.Spec PyProof.Rows LamX
open Sq31 (Deed Act)
section
variable {P : Program} {w : World} {K : PySem.W.Frag} {mg : Str → Option Value} {base : Heap} {c : Cs}

/-! ### holds -/
def heldIn (ds : List Deed) (n : Nat) : Bool := (lastTurn ds n).getD true
def spHolds (K : PySem.W.Frag) (c : Cs) (T : List (Addr × Str)) : Sp := fun vs H Q _ => ∃ (n : Nat) (l : Addr) (L : List Row), vs = [I n, .ref l] ∧ SqL K H l (refs L) ∧ Rows c H L ∧ Tabs T H ∧ L.length ≤ 1000 ∧
  ∀ H' : Hp, ExtN H H' → Tabs T H' → Q (.bl (heldIn (seconds (sortL L)) n)) H'
theorem getD_bl (g : Option Bool) : (g.map V.bl).getD (.bl true) = .bl (g.getD true) := by cases g <;> rfl
abbrev s_holds : Stmt := top 7
theorem sc_holds : FnScope ["number", "deeds"] ["number", "deeds"] (defScope s_holds) := ⟨rfl, rfl, rfl, by decide +kernel, rfl, by decide +kernel, by decide +kernel⟩
theorem ok_holds {f : Addr} {fd : FuncData} {Tb : List (Addr × Str)} {k : Nat} (F : L2.Fun K "holds" "holds" s_holds f fd) (cL : C8.Cal P w K mg base k "last_turns" (spLastTurns K c Tb) []) :
    FnOk P w K mg base L2.CX0 (k + 1) f fd ["number", "deeds"] (spHolds K c Tb) := by
  refine F.ok sc_holds (fun vs H Q E h => ?_) fun cdv A outer s H vs Q E hr h => ⟨_, pss_one (ps_ret (pe_dget2 (hu_of hr) (C8.pe_c cL hr (Nat.le_refl _) rfl (pa_cons (pv 1) pa_nil)) (pv 0) pe_bl ⟨rfl, rfl, rfl, rfl⟩)), ?_⟩
  · obtain ⟨n, l, L, rfl, _⟩ := h
    rfl
  obtain ⟨n, l, L, rfl, hS, hR, hT, hl, q⟩ := h
  refine ⟨_, rfl, l, L, rfl, hS, hR, hT, hl, fun H' p e t n' ⟨kvs, hk, _, hv⟩ => ⟨p, rfl, .inl ⟨kvs, .inl hk⟩, _, rfl, _, DGet.k (k := Sum.inl (n : Int)) hk, ?_⟩⟩
  rw [hv, getD_bl]
  exact q H' e t

/-! ### moves_by_stamps -/
def movesL (L : List Row) : List Row := (sortL L).filter fun r => r.2.isMove
def spMovesBy (K : PySem.W.Frag) (c : Cs) (T : List (Addr × Str)) : Sp := fun vs H Q _ => ∃ (l : Addr) (L : List Row), vs = [.ref l] ∧ SqL K H l (refs L) ∧ Rows c H L ∧ Tabs T H ∧ L.length ≤ 1000 ∧
  ∀ (H' : Hp) (p : Addr), ExtN H H' → Tabs T H' → NewN H p → H' p = some (.lst (refs (movesL L))) → Q (.ref p) H'
theorem take_snoc {α : Type} {l : List α} {i : Nat} {x : α} (h : l[i]? = some x) : l.take (i + 1) = l.take i ++ [x] := by
  rw [List.take_add_one, h]
  rfl
theorem refs_take (L : List Row) : L.take (refs L).length = L := List.take_of_length_le (by unfold refs; rw [List.length_map]; exact Nat.le_refl _)
theorem refs_filter_len {L : List Row} {i : Nat} (p : Row → Bool) (h : L.length ≤ 1000) : (refs ((L.take i).filter p)).length < sizeLine := by
  unfold refs
  rw [List.length_map]
  have h3 := List.length_filter_le p (L.take i)
  have h4 : (L.take i).length ≤ L.length := by rw [List.length_take]; omega
  exact small1000 (by omega)
abbrev s_moves_by_stamps : Stmt := top 8
theorem sc_moves_by_stamps : FnScope ["deeds", "deed"] ["deeds"] (defScope s_moves_by_stamps) := ⟨rfl, rfl, rfl, by decide +kernel, rfl, by decide +kernel, by decide +kernel⟩
theorem ok_moves_by_stamps {f : Addr} {fd : FuncData} {Tb : List (Addr × Str)} {k : Nat} (F : L2.Fun K "moves_by_stamps" "moves_by_stamps" s_moves_by_stamps f fd) (T : Txt K mg c) (cB : C8.Cal P w K mg base k "by_stamps" (spByStamps K c Tb) []) :
    FnOk P w K mg base L2.CX0 (k + 1) f fd ["deeds"] (spMovesBy K c Tb) := by
  refine F.ok sc_moves_by_stamps (fun vs H Q E h => ?_) fun cdv A outer s H vs Q E hr h => ⟨_, pss_one (ps_ret (pe_lc (own := [("deed", 1)]) (g := gName 1) (tt := tB (tCB (rIsi K) (tCons (tVar 1) (tCons (tC (V.ref c.M)) tNil)))) (te := tVar 1) rfl sc_moves_by_stamps.nd
      (pi_list (C8.pe_c cB hr (Nat.le_refl _) rfl (pa_cons (pv 0) pa_nil))) (blkOk_by (own := [("deed", 1)]) (N := ["deeds", "deed"]) (sc := defScope s_moves_by_stamps) (by decide +kernel))
      (fun _ _ _ _ _ => pg_name (i := 1) sc_moves_by_stamps.nd rfl (Or.inl rfl))
      (fun _ _ _ _ _ => pts_one (pt_val (pe_callB call_isi (by rfl) T.bIsi (by decide +kernel) (pa_cons (pv 1) (pa_cons (pe_glob (v := .ref c.M) rfl T.gM rfl) pa_nil)))))
      (fun _ _ _ _ _ => pv 1))), ?_⟩
  · obtain ⟨l, L, rfl, _⟩ := h
    rfl
  obtain ⟨l, L, rfl, hS, hR, hT, hl, q⟩ := h
  refine ⟨_, rfl, l, L, rfl, hS, hR, hT, fun H2 p e2 t2 n2 hp => ?_⟩
  refine ⟨p, rfl, ⟨_, SqL.of hp⟩, fun D hD => lc_list (K := K) (a := p) (xs := refs (sortL L)) (fun i H' => Same H2 H' ∧ H' D = some (.lst (refs (((sortL L).take i).filter fun r => r.2.isMove))))
    ⟨same_new (Same.refl H2) hD, upd_same⟩ (fun i H' _ z => z.1.seq (SqL.of hp)) ?_ ?_⟩
  · rintro i y H' hi ⟨e4, hd⟩
    obtain ⟨r, hr1, rfl⟩ := refs_at hi
    obtain ⟨dx, t, h1, h2⟩ := (hR.ext (e2.trans (extN_of_same e4))) r (sort_mem.mp (List.mem_of_getElem? hr1))
    refine ⟨rfl, _, rfl, _, _, _, _, _, rfl, .own c.M, T.ty h1, T.isM r.2, _, rfl, ?_⟩
    rw [take_snoc hr1, List.filter_append, List.filter_cons]
    cases hm : r.2.isMove with
    | false =>
      refine iteF ⟨e4, ?_⟩
      rw [hd]
      simp
    | true =>
      refine iteT ⟨_, rfl, _, hd, refs_filter_len _ (by rw [sort_len]; exact hl), same_write e4 hD, ?_⟩
      rw [upd_same]
      unfold refs
      rw [List.map_append]
      rfl
  · rintro H' ⟨e4, hd⟩
    rw [refs_take] at hd
    exact q H' D (e2.trans (extN_of_same e4)) (t2.ext e4) (NewN.of e2 hD) hd

/-! ### moves_that_hold -/
def heldL (L : List Row) : List Row := (sortL L).filter fun r => r.2.isMove && heldIn (seconds (sortL L)) r.2.id
theorem heldL_moves (L : List Row) : (movesL L).filter (fun r => heldIn (seconds (sortL L)) r.2.id) = heldL L := by
  unfold movesL heldL
  rw [List.filter_filter]
  congr 1
  funext r
  exact Bool.and_comm _ _
theorem moves_len (L : List Row) : (movesL L).length ≤ L.length := by
  unfold movesL
  have := List.length_filter_le (fun r : Row => r.2.isMove) (sortL L)
  rw [sort_len] at this
  exact this
def spMoves (K : PySem.W.Frag) (c : Cs) (T : List (Addr × Str)) : Sp := fun vs H Q _ => ∃ (l : Addr) (L : List Row), vs = [.ref l] ∧ SqL K H l (refs L) ∧ Rows c H L ∧ Tabs T H ∧ L.length ≤ 1000 ∧
  ∀ (H' : Hp) (p : Addr), ExtN H H' → Tabs T H' → NewN H p → H' p = some (.lst (refs (heldL L))) → Q (.ref p) H'
abbrev s_moves_that_hold : Stmt := top 9
theorem sc_moves_that_hold : FnScope ["deeds", "turned", "move"] ["deeds"] (defScope s_moves_that_hold) := ⟨rfl, rfl, rfl, by decide +kernel, rfl, by decide +kernel, by decide +kernel⟩
theorem ok_moves_that_hold {f : Addr} {fd : FuncData} {Tb : List (Addr × Str)} {k : Nat} (F : L2.Fun K "moves_that_hold" "moves_that_hold" s_moves_that_hold f fd) (T : Txt K mg c) (cB : C8.Cal P w K mg base k "moves_by_stamps" (spMovesBy K c Tb) [])
    (cL : C8.Cal P w K mg base k "last_turns" (spLastTurns K c Tb) []) :
    FnOk P w K mg base L2.CX0 (k + 1) f fd ["deeds"] (spMoves K c Tb) := by
  refine F.ok sc_moves_that_hold (fun vs H Q E h => ?_) fun cdv A outer s H vs Q E hr h => ⟨_, pss_cons (ps_set (i := 1) sc_moves_that_hold.nd rfl (.inr rfl) (C8.pe_c cL hr (Nat.le_refl _) rfl (pa_cons (pv 0) pa_nil)))
    (pss_one (ps_ret (pe_lc (own := [("move", 2)]) (g := gName 2) (tt := tB (tDGet2 (tVar 1) (tFld K (tVar 2) "number") (tC (.bl true)))) (te := tVar 2) rfl sc_moves_that_hold.nd
      (pi_list (C8.pe_c cB hr (Nat.le_refl _) rfl (pa_cons (pv 0) pa_nil))) (blkOk_by (own := [("move", 2)]) (N := ["deeds", "turned", "move"]) (sc := defScope s_moves_that_hold) (by decide +kernel))
      (fun _ _ _ _ _ => pg_name (i := 2) sc_moves_that_hold.nd rfl (Or.inl rfl))
      (fun _ _ _ _ _ => pts_one (pt_val (pe_dget2 (hu_of hr) (pv 1) (pe_fld (pv 2) rfl) pe_bl ⟨rfl, rfl, rfl, rfl⟩)))
      (fun _ _ _ _ _ => pv 2)))), ?_⟩
  · obtain ⟨l, L, rfl, _⟩ := h
    rfl
  obtain ⟨l, L, rfl, hS, hR, hT, hl, q⟩ := h
  refine ⟨_, rfl, l, L, rfl, hS, hR, hT, hl, fun H1 td e1 t1 n1 ⟨kvs, hk, hkl, hv⟩ => ?_⟩
  refine ⟨_, rfl, l, L, rfl, sqL_ext hS e1, hR.ext e1, t1, hl, fun H2 p e2 t2 n2 hp => ?_⟩
  have hk2 : H2 td = some (.dK kvs) := e2 _ _ hk notTbl_dK
  have e3 : ExtN H H2 := e1.trans e2
  refine ⟨p, rfl, ⟨_, SqL.of hp⟩, fun D hD => lc_list (K := K) (a := p) (xs := refs (movesL L)) (fun i H' => Same H2 H' ∧ H' D = some (.lst (refs (((movesL L).take i).filter fun r => heldIn (seconds (sortL L)) r.2.id))))
    ⟨same_new (Same.refl H2) hD, upd_same⟩ (fun i H' _ z => z.1.seq (SqL.of hp)) ?_ ?_⟩
  · rintro i y H' hi ⟨e4, hd⟩
    obtain ⟨r, hr1, rfl⟩ := refs_at hi
    obtain ⟨dx, t, h1, h2⟩ := (hR.ext (e3.trans (extN_of_same e4))) r (sort_mem.mp (List.mem_filter.mp (List.mem_of_getElem? hr1)).1)
    refine ⟨rfl, _, rfl, td, rfl, .inl ⟨kvs, .inl (e4 _ _ hk2)⟩, _, rfl, r.1, _, dx, _, _, rfl, h1, T.cl r.2, T.nNumber r.2, dF_number t r.2, _, DGet.k (k := Sum.inl (r.2.id : Int)) (e4 _ _ hk2), ?_⟩
    rw [hv, getD_bl]
    refine ⟨_, rfl, ?_⟩
    rw [take_snoc hr1, List.filter_append, List.filter_cons]
    have hq : heldIn (seconds (sortL L)) r.2.id = (lastTurn (seconds (sortL L)) r.2.id).getD true := rfl
    rw [hq]
    cases hh : (lastTurn (seconds (sortL L)) r.2.id).getD true with
    | false =>
      refine iteF ⟨e4, ?_⟩
      rw [hd]
      simp
    | true =>
      refine iteT ⟨_, rfl, _, hd, refs_filter_len _ (Nat.le_trans (moves_len L) hl), same_write e4 hD, ?_⟩
      rw [upd_same]
      unfold refs
      rw [List.map_append]
      rfl
  · rintro H' ⟨e4, hd⟩
    rw [refs_take, heldL_moves] at hd
    exact q H' D (e3.trans (extN_of_same e4)) (t2.ext e4) (NewN.of e3 hD) hd
end
end Hb
end

section
set_option Elab.async false
set_option linter.all false
set_option maxRecDepth 100000
set_option maxHeartbeats 2500000
namespace Hb
open L2 PySem PySem.Spec PyProof.Rows LamX
open Sq31 (Deed Act)
section
variable {P : Program} {w : World} {K : PySem.W.Frag} {mg : Str → Option Value} {base : Heap} {c : Cs}

def optV : Option Nat → V
  | none => .non
  | some n => I n

/-! ### move_to_undo -/
def undoStep (k : Nat) (acc : Option Nat) (r : Row) : Option Nat := if ownMove k r.2 = true then some r.2.id else acc
def undoOf (k : Nat) (L : List Row) : Option Nat := (heldL L).foldl (undoStep k) none
def spUndo (K : PySem.W.Frag) (c : Cs) (T : List (Addr × Str)) : Sp := fun vs H Q _ => ∃ (k : Nat) (l : Addr) (L : List Row), vs = [I k, .ref l] ∧ SqL K H l (refs L) ∧ Rows c H L ∧ Tabs T H ∧ L.length ≤ 1000 ∧
  ∀ H' : Hp, ExtN H H' → Tabs T H' → Q (optV (undoOf k L)) H'
abbrev s_move_to_undo : Stmt := top 10
theorem sc_move_to_undo : FnScope ["desk", "deeds", "chosen", "deed"] ["desk", "deeds"] (defScope s_move_to_undo) := ⟨rfl, rfl, rfl, by decide +kernel, rfl, by decide +kernel, by decide +kernel⟩
theorem ok_move_to_undo {f : Addr} {fd : FuncData} {Tb : List (Addr × Str)} {k : Nat} (F : L2.Fun K "move_to_undo" "move_to_undo" s_move_to_undo f fd) (T : Txt K mg c) (cM : C8.Cal P w K mg base k "moves_that_hold" (spMoves K c Tb) [])
    (cI : C8.Cal P w K mg base 1 "is_move_of" (spIsMoveOf c) []) (hk1 : 1 ≤ k) :
    FnOk P w K mg base L2.CX0 (k + 1) f fd ["desk", "deeds"] (spUndo K c Tb) := by
  refine F.ok sc_move_to_undo (fun vs H Q E h => ?_) fun cdv A outer s H vs Q E hr h => ⟨_, pss_cons (ps_set (i := 2) sc_move_to_undo.nd rfl (.inl rfl) pe_non)
    (pss_cons (ps_for PassesOwn.never rfl (pi_list (C8.pe_c cM hr (Nat.le_refl _) rfl (pa_cons (pv 1) pa_nil))) (pg_name (i := 3) sc_move_to_undo.nd rfl (.inl rfl))
      (pss_one (ps_if (pt_val (C8.pe_c cI hr hk1 rfl (pa_cons (pv 0) (pa_cons (pv 3) pa_nil)))) (pss_one (ps_set (i := 2) sc_move_to_undo.nd rfl (.inl rfl) (pe_fld (pv 3) rfl))) pss_nil)))
    (pss_one (ps_ret (pv 2)))), ?_⟩
  · obtain ⟨n, l, L, rfl, _⟩ := h
    rfl
  obtain ⟨n, l, L, rfl, hS, hR, hT, hl, q⟩ := h
  refine ⟨_, rfl, l, L, rfl, hS, hR, hT, hl, fun H1 p e1 t1 n1 hp => ?_⟩
  refine ⟨p, rfl, ⟨_, SqL.of hp⟩, for_list (K := K) (a := p) (xs := refs (heldL L)) (fun i σ H' => ∃ v : Option V, σ = [some (I n), some (.ref l), some (optV (((heldL L).take i).foldl (undoStep n) none)), v] ∧ H' = H1)
    ⟨none, rfl, rfl⟩ (fun i σ H' _ ⟨_, _, z⟩ => by rw [z]; exact SqL.of hp) ?_ ?_⟩
  · rintro i y σ H' hi ⟨v, rfl, rfl⟩
    obtain ⟨r, hr1, rfl⟩ := refs_at hi
    have hmem : r ∈ L := sort_mem.mp (List.mem_filter.mp (List.mem_of_getElem? hr1)).1
    have hd := (hR.ext e1) r hmem
    have st : ((heldL L).take (i + 1)).foldl (undoStep n) none = undoStep n (((heldL L).take i).foldl (undoStep n) none) r := by
      rw [List.take_add_one, hr1, List.foldl_append]
      rfl
    refine ⟨_, rfl, _, rfl, n, r.1, r.2, rfl, hd, _, rfl, ?_⟩
    obtain ⟨dx, t, h1, h2⟩ := hd
    cases ho : ownMove n r.2 with
    | false =>
      refine iteF ⟨some (.ref r.1), ?_, rfl⟩
      rw [st]
      unfold undoStep
      rw [ho]
      rfl
    | true =>
      refine iteT ⟨_, rfl, r.1, _, dx, _, _, rfl, h1, T.cl r.2, T.nNumber r.2, dF_number t r.2, some (.ref r.1), ?_, rfl⟩
      rw [st]
      unfold undoStep
      rw [ho]
      rfl
  · rintro σ H' ⟨v, rfl, rfl⟩
    have e5 : (heldL L).take (refs (heldL L)).length = heldL L := List.take_of_length_le (by unfold refs; rw [List.length_map]; exact Nat.le_refl _)
    rw [e5]
    exact ⟨_, rfl, q _ e1 t1⟩

/-! ### move_to_redo -/
def redoStep (k : Nat) (g : Nat → Option Bool) (acc : Option Nat) (d : Deed) : Option Nat := match d.of_ with
  | none => if (d.stamp.hand == k) = true then none else acc
  | some j => if (d.stamp.hand == k && (d.isBack && !(g j).getD true)) = true then some j else acc
def redoOf (k : Nat) (L : List Row) : Option Nat := (seconds (sortL L)).foldl (redoStep k (lastTurn (seconds (sortL L)))) none
theorem lastTurn_mono : ∀ (ds : List Deed) (g : Nat → Option Bool) (j : Nat), (∃ b, g j = some b) → ∃ b, ds.foldl turnStep g j = some b
  | [], _, _, h => h
  | d :: r, g, j, h => by
    rw [List.foldl_cons]
    refine lastTurn_mono r _ j ?_
    obtain ⟨b, hb⟩ := h
    cases ho : d.of_ with
    | none => rw [(turn_none ho).2]; exact ⟨b, hb⟩
    | some i =>
      rw [(turn_some ho).2.2.2]
      by_cases hj : j = i
      · exact ⟨_, if_pos hj⟩
      · exact ⟨b, (if_neg hj).trans hb⟩
theorem lastTurn_in : ∀ (ds : List Deed) (g : Nat → Option Bool) (d : Deed) (j : Nat), d ∈ ds → d.of_ = some j → ∃ b, ds.foldl turnStep g j = some b
  | e :: r, g, d, j, hm, ho => by
    rw [List.foldl_cons]
    rcases (List.mem_cons.mp hm) with rfl | hm
    · refine lastTurn_mono r _ j ⟨!d.isBack, ?_⟩
      rw [(turn_some ho).2.2.2]
      exact if_pos rfl
    · exact lastTurn_in r _ d j hm ho
def spRedo (K : PySem.W.Frag) (c : Cs) (T : List (Addr × Str)) : Sp := fun vs H Q _ => ∃ (k : Nat) (l : Addr) (L : List Row), vs = [I k, .ref l] ∧ SqL K H l (refs L) ∧ Rows c H L ∧ Tabs T H ∧ L.length ≤ 1000 ∧
  ∀ H' : Hp, ExtN H H' → Tabs T H' → Q (optV (redoOf k L)) H'
abbrev s_move_to_redo : Stmt := top 11
theorem sc_move_to_redo : FnScope ["desk", "deeds", "turned", "chosen", "deed"] ["desk", "deeds"] (defScope s_move_to_redo) := ⟨rfl, rfl, rfl, by decide +kernel, rfl, by decide +kernel, by decide +kernel⟩
theorem dec_nat (a b : Nat) : decide (I a = I b) = (a == b) := by
  rw [Bool.eq_iff_iff]
  simp [I]
  omega
theorem ok_move_to_redo {f : Addr} {fd : FuncData} {Tb : List (Addr × Str)} {k : Nat} (F : L2.Fun K "move_to_redo" "move_to_redo" s_move_to_redo f fd) (T : Txt K mg c) (cB : C8.Cal P w K mg base k "by_stamps" (spByStamps K c Tb) [])
    (cL : C8.Cal P w K mg base (k + 1) "last_turns" (spLastTurns K c Tb) []) (cI : C8.Cal P w K mg base 1 "is_move_of" (spIsMoveOf c) []) :
    FnOk P w K mg base L2.CX0 (k + 2) f fd ["desk", "deeds"] (spRedo K c Tb) := by
  refine F.ok sc_move_to_redo (fun vs H Q E h => ?_) fun cdv A outer s H vs Q E hr h => ⟨_, pss_cons (ps_set (i := 2) sc_move_to_redo.nd rfl (.inl rfl) (C8.pe_c cL hr (Nat.le_refl _) rfl (pa_cons (pv 1) pa_nil)))
    (pss_cons (ps_set (i := 3) sc_move_to_redo.nd rfl (.inl rfl) pe_non)
    (pss_cons (ps_for PassesOwn.never rfl (pi_list (C8.pe_c cB hr (Nat.le_succ _) rfl (pa_cons (pv 1) pa_nil))) (pg_name (i := 4) sc_move_to_redo.nd rfl (.inl rfl))
      (pss_one (ps_if (pt_val (C8.pe_c cI hr (Nat.succ_le_succ (Nat.zero_le _)) rfl (pa_cons (pv 0) (pa_cons (pv 4) pa_nil)))) (pss_one (ps_set (i := 3) sc_move_to_redo.nd rfl (.inl rfl) pe_non))
        (pss_one (ps_if (PW.pt (pw_and (pt_cmpR op_eq (pe_ix ix_tup (pe_fld (pv 4) rfl) pe_int (fun _ _ => rfl)) (pv 0) (nomark _)) (pw_and (pt_not (pt_val (pe_fld (pv 4) rfl))) (pw_and1 (pt_not (pt_val (pe_dget (hu_of hr) (pv 2) (pe_fld (pv 4) rfl) (fun _ _ => rfl))))))))
          (pss_one (ps_set (i := 3) sc_move_to_redo.nd rfl (.inl rfl) (pe_fld (pv 4) rfl))) pss_nil)))))
    (pss_one (ps_ret (pv 3))))), ?_⟩
  · obtain ⟨n, l, L, rfl, _⟩ := h
    rfl
  obtain ⟨n, l, L, rfl, hS, hR, hT, hl, q⟩ := h
  refine ⟨_, rfl, l, L, rfl, hS, hR, hT, hl, fun H1 td e1 t1 n1 ⟨kvs, hk, hkl, hv⟩ => ?_⟩
  refine ⟨_, rfl, l, L, rfl, sqL_ext hS e1, hR.ext e1, t1, fun H2 p e2 t2 n2 hp => ?_⟩
  have hk2 : H2 td = some (.dK kvs) := e2 _ _ hk notTbl_dK
  have e3 : ExtN H H2 := e1.trans e2
  refine ⟨p, rfl, ⟨_, SqL.of hp⟩, for_list (K := K) (a := p) (xs := refs (sortL L)) (fun i σ H' => ∃ v : Option V, σ = [some (I n), some (.ref l), some (.ref td), some (optV (((seconds (sortL L)).take i).foldl (redoStep n (lastTurn (seconds (sortL L)))) none)), v] ∧ H' = H2)
    ⟨none, rfl, rfl⟩ (fun i σ H' _ ⟨_, _, z⟩ => by rw [z]; exact SqL.of hp) ?_ ?_⟩
  · rintro i y σ H' hi ⟨v, rfl, rfl⟩
    obtain ⟨r, hr1, rfl⟩ := refs_at hi
    have hmem : r ∈ L := sort_mem.mp (List.mem_of_getElem? hr1)
    have hd := (hR.ext e3) r hmem
    have st : ((seconds (sortL L)).take (i + 1)).foldl (redoStep n (lastTurn (seconds (sortL L)))) none = redoStep n (lastTurn (seconds (sortL L))) (((seconds (sortL L)).take i).foldl (redoStep n (lastTurn (seconds (sortL L)))) none) r.2 := by
      rw [List.take_add_one, seconds_at hr1, List.foldl_append]
      rfl
    refine ⟨_, rfl, _, rfl, n, r.1, r.2, rfl, hd, _, rfl, ?_⟩
    obtain ⟨dx, t, h1, h2⟩ := hd
    cases ho : r.2.of_ with
    | none =>
      obtain ⟨z1, z2⟩ := turn_none ho
      have eo : ownMove n r.2 = (r.2.stamp.hand == n) := by unfold ownMove; rw [z1]; rfl
      rw [eo]
      cases hh : (r.2.stamp.hand == n) with
      | true =>
        refine iteT ⟨some (.ref r.1), ?_, rfl⟩
        rw [st]
        unfold redoStep
        rw [ho]
        dsimp only
        rw [if_pos hh]
        rfl
      | false =>
        refine iteF ⟨_, rfl, r.1, _, dx, _, _, rfl, h1, T.cl r.2, T.nStamp r.2, dF_stamp t r.2, t, _, _, _, rfl, rfl, SqT.of h2, atI_nat (j := 1) rfl, _, rfl, rfl, _, rfl, ?_⟩
        rw [dec_nat, hh]
        refine iteF (iteF ⟨some (.ref r.1), ?_, rfl⟩)
        rw [st]
        unfold redoStep
        rw [ho]
        dsimp only
        rw [if_neg (by rw [hh]; exact Bool.false_ne_true)]
        rfl
    | some j =>
      obtain ⟨z1, z2, z3, z4⟩ := turn_some ho
      have eo : ownMove n r.2 = false := by unfold ownMove; rw [z1]; rfl
      rw [eo]
      refine iteF ⟨_, rfl, r.1, _, dx, _, _, rfl, h1, T.cl r.2, T.nStamp r.2, dF_stamp t r.2, t, _, _, _, rfl, rfl, SqT.of h2, atI_nat (j := 1) rfl, _, rfl, rfl, _, rfl, ?_⟩
      rw [z2, z3] at h1
      rw [dec_nat]
      have keep : (r.2.stamp.hand == n && (r.2.isBack && !(lastTurn (seconds (sortL L)) j).getD true)) = false → ∃ v : Option V, [some (I n), some (V.ref l), some (V.ref td), some (optV (((seconds (sortL L)).take i).foldl (redoStep n (lastTurn (seconds (sortL L)))) none)), some (V.ref r.1)] = [some (I n), some (.ref l), some (.ref td), some (optV (((seconds (sortL L)).take (i + 1)).foldl (redoStep n (lastTurn (seconds (sortL L)))) none)), v] ∧ H' = H' := fun hf => by
        refine ⟨some (.ref r.1), ?_, rfl⟩
        rw [st]
        unfold redoStep
        rw [ho]
        dsimp only
        rw [if_neg (by rw [hf]; exact Bool.false_ne_true)]
      cases hh : (r.2.stamp.hand == n) with
      | false => exact iteF (iteF (keep (by rw [hh]; rfl)))
      | true =>
        refine iteT ⟨_, rfl, r.1, c.T, dx, _, _, rfl, h1, T.clT, T.nTh, (lk_past (by decide +kernel)).trans ((lk_past (by decide +kernel)).trans ((lk_past (by decide +kernel)).trans lk_here)), _, rfl, ?_⟩
        cases hb : r.2.isBack with
        | false => exact iteF (iteF (keep (by rw [hh, hb]; rfl)))
        | true =>
          obtain ⟨b, hlt⟩ := lastTurn_in (seconds (sortL L)) (fun _ => none) r.2 j (List.mem_of_getElem? (seconds_at hr1)) ho
          have hlt : lastTurn (seconds (sortL L)) j = some b := hlt
          have hvb : valV kvs (Sum.inl (j : Int)) = some (.bl b) := by rw [hv, hlt]; rfl
          refine iteT ⟨_, rfl, _, rfl, r.1, c.T, dx, _, _, rfl, h1, T.clT, T.nTt, (lk_past (by decide +kernel)).trans ((lk_past (by decide +kernel)).trans lk_here), td, _, rfl, by rw [← hvb]; exact DGet.k (k := Sum.inl (j : Int)) hk2, _, rfl, ?_⟩
          cases b with
          | true => exact iteF (keep (by rw [hh, hb, hlt]; rfl))
          | false =>
            refine iteT ⟨_, rfl, r.1, c.T, dx, _, _, rfl, h1, T.clT, T.nTt, (lk_past (by decide +kernel)).trans ((lk_past (by decide +kernel)).trans lk_here), some (.ref r.1), ?_, rfl⟩
            rw [st]
            unfold redoStep
            rw [ho]
            dsimp only
            rw [if_pos (by rw [hh, hb, hlt]; rfl)]
            rfl
  · rintro σ H' ⟨v, rfl, rfl⟩
    have e5 : (seconds (sortL L)).take (refs (sortL L)).length = seconds (sortL L) := List.take_of_length_le (by unfold refs seconds; rw [List.length_map, List.length_map]; exact Nat.le_refl _)
    rw [e5]
    exact ⟨_, rfl, q _ e3 t2⟩
end
end Hb
end

section
set_option Elab.async false
set_option linter.all false
namespace Hb
open Sq28 (Place Tree)

/-- the things of a tree rise -/
def Rises (t : Tree) : Prop := t.Pairwise fun p q => p.thing < q.thing
/-- nothing is within itself -/
def Ranked (t : Tree) : Prop := ∃ rank : Nat → Nat, ∀ p ∈ t, rank p.under < rank p.thing
structure WF (t : Tree) : Prop where
  rises : Rises t
  ranked : Ranked t
theorem WF.nil : WF [] := ⟨List.Pairwise.nil, fun _ => 0, fun _ h => nomatch h⟩

theorem get_mem {t : Tree} {x : Nat} {p : Place} (h : Sq28.get t x = some p) : p ∈ t ∧ p.thing = x := by
  unfold Sq28.get at h
  exact ⟨List.mem_of_find?_eq_some h, by simpa using List.find?_some h⟩
theorem get_of {t : Tree} (r : Rises t) {p : Place} (h : p ∈ t) : Sq28.get t p.thing = some p := by
  unfold Sq28.get
  induction t with
  | nil => cases h
  | cons q t ih =>
    rw [List.find?_cons]
    rcases (List.mem_cons.mp h) with rfl | h
    · simp
    · have := (List.pairwise_cons.mp r).1 p h
      have : (q.thing == p.thing) = false := by simp; omega
      rw [this]
      exact ih (List.pairwise_cons.mp r).2 h
theorem mem_put {t : Tree} {p q : Place} : q ∈ Sq28.put p t ↔ q = p ∨ (q ∈ t ∧ q.thing ≠ p.thing) := by
  unfold Sq28.put
  rw [List.mem_append, List.mem_cons, List.mem_filter, List.mem_filter]
  constructor
  · rintro (⟨h1, h2⟩ | rfl | ⟨h1, h2⟩)
    · exact .inr ⟨h1, by have := of_decide_eq_true h2; omega⟩
    · exact .inl rfl
    · exact .inr ⟨h1, by have := of_decide_eq_true h2; omega⟩
  · rintro (rfl | ⟨h1, h2⟩)
    · exact .inr (.inl rfl)
    · by_cases h : q.thing < p.thing
      · exact .inl ⟨h1, decide_eq_true h⟩
      · exact .inr (.inr ⟨h1, decide_eq_true (by omega)⟩)
theorem rises_put {t : Tree} (r : Rises t) (p : Place) : Rises (Sq28.put p t) := by
  unfold Sq28.put Rises
  rw [List.pairwise_append]
  refine ⟨r.filter _, ?_, fun a ha b hb => ?_⟩
  · rw [List.pairwise_cons]
    exact ⟨fun q hq => of_decide_eq_true (List.mem_filter.mp hq).2, r.filter _⟩
  · have h1 := of_decide_eq_true (List.mem_filter.mp ha).2
    rcases (List.mem_cons.mp hb) with rfl | hb
    · exact h1
    · have h2 := of_decide_eq_true (List.mem_filter.mp hb).2
      omega
theorem get_put {t : Tree} (r : Rises t) (p : Place) (x : Nat) : Sq28.get (Sq28.put p t) x = if x = p.thing then some p else Sq28.get t x := by
  by_cases h : x = p.thing
  · rw [if_pos h, h]
    exact get_of (rises_put r p) (mem_put.mpr (.inl rfl))
  · rw [if_neg h]
    cases q : Sq28.get t x with
    | some v =>
      obtain ⟨h1, h2⟩ := get_mem q
      have := get_of (rises_put r p) (mem_put.mpr (.inr ⟨h1, by rw [h2]; exact h⟩))
      rw [h2] at this
      exact this
    | none =>
      cases q2 : Sq28.get (Sq28.put p t) x with
      | none => rfl
      | some v =>
        obtain ⟨h1, h2⟩ := get_mem q2
        rcases mem_put.mp h1 with rfl | ⟨h3, _⟩
        · exact absurd h2.symm h
        · have := get_of r h3
          rw [h2, q] at this
          cases this

/-- the whole line above a thing -/
inductive Chain (t : Tree) : Nat → List Nat → Prop
  | stop {x : Nat} : Sq28.get t x = none → Chain t x [x]
  | step {x : Nat} {p : Place} {l : List Nat} : Sq28.get t x = some p → Chain t p.under l → Chain t x (x :: l)
theorem chain_ex {t : Tree} (r : Ranked t) (x : Nat) : ∃ l, Chain t x l := by
  obtain ⟨rank, hr⟩ := r
  generalize hn : rank x = n
  induction n using Nat.strongRecOn generalizing x with
  | ind n ih =>
    cases q : Sq28.get t x with
    | none => exact ⟨_, .stop q⟩
    | some p =>
      obtain ⟨h1, h2⟩ := get_mem q
      have := hr p h1
      rw [h2, hn] at this
      obtain ⟨l, hl⟩ := ih _ this p.under rfl
      exact ⟨_, .step q hl⟩
theorem chain_rank {t : Tree} {rank : Nat → Nat} (hr : ∀ p ∈ t, rank p.under < rank p.thing) {x : Nat} {l : List Nat} (h : Chain t x l) : ∀ y ∈ l, rank y ≤ rank x := by
  induction h with
  | stop q => intro y hy; rw [List.mem_singleton.mp hy]; exact Nat.le_refl _
  | step q _ ih =>
    intro y hy
    obtain ⟨h1, h2⟩ := get_mem q
    have := hr _ h1
    rw [h2] at this
    rcases (List.mem_cons.mp hy) with rfl | hy
    · exact Nat.le_refl _
    · exact Nat.le_trans (ih y hy) (Nat.le_of_lt this)
theorem chain_nodup {t : Tree} (r : Ranked t) {x : Nat} {l : List Nat} (h : Chain t x l) : l.Nodup := by
  obtain ⟨rank, hr⟩ := r
  induction h with
  | stop q => exact List.nodup_cons.mpr ⟨List.not_mem_nil, List.nodup_nil⟩
  | step q hc ih =>
    refine List.nodup_cons.mpr ⟨fun z => ?_, ih⟩
    obtain ⟨h1, h2⟩ := get_mem q
    have h3 := hr _ h1
    have h4 := chain_rank hr hc _ z
    rw [h2] at h3
    omega
theorem chain_in {t : Tree} {x : Nat} {l : List Nat} (h : Chain t x l) : ∃ m e, l = m ++ [e] ∧ ∀ y ∈ m, y ∈ t.map (·.thing) := by
  induction h with
  | stop q => exact ⟨[], _, rfl, fun _ h => nomatch h⟩
  | @step x p l q hc ih =>
    obtain ⟨m, e, h1, h2⟩ := ih
    obtain ⟨h3, h4⟩ := get_mem q
    refine ⟨x :: m, e, by rw [h1]; rfl, fun y hy => ?_⟩
    rcases (List.mem_cons.mp hy) with rfl | hy
    · exact List.mem_map.mpr ⟨p, h3, h4⟩
    · exact h2 y hy
theorem nodup_le : ∀ {l m : List Nat}, l.Nodup → (∀ x ∈ l, x ∈ m) → l.length ≤ m.length
  | [], _, _, _ => (Nat.zero_le _)
  | x :: l, m, h, hs => by
    obtain ⟨h1, h2⟩ := (List.nodup_cons.mp h)
    have hx := hs x List.mem_cons_self
    have := nodup_le (l := l) (m := m.erase x) h2 fun y hy => (List.mem_erase_of_ne (fun z => h1 (by rw [← z]; exact hy))).mpr (hs y (List.mem_cons_of_mem _ hy))
    rw [List.length_erase_of_mem hx] at this
    have hp : 0 < m.length := List.length_pos_of_mem hx
    rw [List.length_cons]
    omega
theorem chain_len {t : Tree} (r : Ranked t) {x : Nat} {l : List Nat} (h : Chain t x l) : l.length ≤ t.length + 1 := by
  obtain ⟨m, e, h1, h2⟩ := chain_in h
  have hn := chain_nodup r h
  rw [h1] at hn
  have := nodup_le (List.nodup_append.mp hn).1 h2
  rw [List.length_map] at this
  rw [h1, List.length_append]
  simp
  exact this
theorem line_chain {t : Tree} {x : Nat} {l : List Nat} (h : Chain t x l) : ∀ f, l.length ≤ f → Sq28.line t f x = l := by
  induction h with
  | stop q =>
    intro f hf
    cases f with
    | zero => simp at hf
    | succ f => unfold Sq28.line; rw [q]
  | step q hc ih =>
    intro f hf
    cases f with
    | zero => simp at hf
    | succ f => unfold Sq28.line; rw [q]; dsimp only; rw [ih f (by simpa using hf)]
theorem above_chain {t : Tree} (w : WF t) {x : Nat} {l : List Nat} (h : Chain t x l) : Sq28.above t x = l := line_chain h _ (chain_len w.ranked h)

theorem chain_head {t : Tree} {x : Nat} {l : List Nat} (h : Chain t x l) : x ∈ l := by
  cases h with
  | stop _ => exact List.mem_singleton.mpr rfl
  | step _ _ => exact List.mem_cons_self
/-- within: its line passes there -/
theorem chain_put {t : Tree} (r : Rises t) {x u : Nat} {p : Place} {l : List Nat} (h : Chain t u l) (hx : p.thing ∉ l) : Chain (Sq28.put p t) u l := by
  induction h with
  | stop q =>
    refine .stop ?_
    rw [get_put r, if_neg (fun z => hx (by rw [← z]; exact List.mem_singleton.mpr rfl))]
    exact q
  | step q hc ih =>
    refine .step (p := _) ?_ (ih fun z => hx (List.mem_cons_of_mem _ z))
    rw [get_put r, if_neg (fun z => hx (by rw [← z]; exact List.mem_cons_self))]
    exact q
theorem ranked_put {t : Tree} (w : WF t) {p : Place} (h : p.thing ∉ Sq28.above t p.under) : Ranked (Sq28.put p t) := by
  have hch : ∀ y, Chain t y (Sq28.above t y) := fun y => by
    obtain ⟨l, hl⟩ := chain_ex w.ranked y
    rw [above_chain w hl]
    exact hl
  obtain ⟨rank, hr⟩ := w.ranked
  refine ⟨fun y => if p.thing ∈ Sq28.above t y then rank y + rank p.under + 1 else rank y, fun q hq => ?_⟩
  rcases mem_put.mp hq with rfl | ⟨h1, h2⟩
  · dsimp only
    rw [if_neg h, if_pos]
    · omega
    · exact chain_head (hch q.thing)
  · have h3 := hr q h1
    have hg := get_of w.rises h1
    obtain ⟨l, hl⟩ := chain_ex w.ranked q.under
    have e1 : Sq28.above t q.thing = q.thing :: l := above_chain w (.step hg hl)
    have e2 : Sq28.above t q.under = l := above_chain w hl
    dsimp only
    rw [e1, e2]
    by_cases hm : p.thing ∈ l
    · rw [if_pos hm, if_pos (List.mem_cons_of_mem _ hm)]
      omega
    · rw [if_neg hm, if_neg]
      · exact h3
      · intro z
        rcases (List.mem_cons.mp z) with z | z
        · exact h2 z.symm
        · exact hm z
theorem wf_done {t : Tree} (w : WF t) (d : Sq28.Deed) : WF (Sq28.done t d) := by
  unfold Sq28.done
  split
  · rename_i h
    refine ⟨rises_put w.rises _, ranked_put w (p := ⟨d.thing, d.under, d.label⟩) ?_⟩
    unfold Sq28.outcome at h
    split at h
    · cases h
    · split at h
      · cases h
      · rename_i h2
        intro z
        exact h2 (List.contains_iff_mem.mpr z)
  · exact w
theorem wf_fold : ∀ (l : List Sq28.Deed) {t : Tree}, WF t → WF (l.foldl Sq28.done t)
  | [], _, w => w
  | d :: l, _, w => wf_fold l (wf_done w d)
theorem wf_treeOf (l : List Sq28.Deed) : WF (Sq28.treeOf l) := wf_fold l .nil
end Hb
end

section
set_option Elab.async false
set_option linter.all false
set_option maxRecDepth 100000
set_option maxHeartbeats 2500000
namespace Hb
open L2 PySem PySem.Spec PyProof.Rows LamX
open Sq31 (Deed Act)
open Sq28 (Place)

/-- the module's constants of trees -/
structure TxtC (mg : Str → Option Value) : Prop where
  root : ∃ t, mg "ROOT" = some (.int 0 t)
  bin : ∃ t, mg "BIN" = some (.int 1 t)
  last : ∃ t, mg "LAST_THING" = some (.int 63 t)
  put : ∃ t, mg "PUT" = some (.int 1 t)
  notThere : ∃ t, mg "NOT_THERE" = some (.int 2 t)
  within : ∃ t, mg "WITHIN_ITSELF" = some (.int 3 t)

/-! ### a tree in the heap -/
def PlaceV (H : Hp) (o : Option V) (p : Option (Nat × Nat)) : Prop := match p with
  | none => o = none
  | some (u, l) => ∃ t, o = some (.ref t) ∧ H t = some (.tup [I u, I l])
theorem putK_keys_in {kvs : List (Key × V)} {k : Key} {v : V} (h : k ∈ kvs.map (·.1)) : (putK kvs k v).map (·.1) = kvs.map (·.1) := by
  unfold putK
  rw [if_pos]
  · rw [List.map_map]
    refine (List.map_congr_left fun p _ => ?_)
    show (if p.1 = k then (p.1, v) else p).1 = p.1
    split <;> rfl
  · obtain ⟨p, hp, e⟩ := List.mem_map.mp h
    exact (List.any_eq_true.mpr ⟨p, hp, decide_eq_true e⟩)
theorem putK_keys_out {kvs : List (Key × V)} {k : Key} {v : V} (h : k ∉ kvs.map (·.1)) : (putK kvs k v).map (·.1) = kvs.map (·.1) ++ [k] := by
  unfold putK
  rw [if_neg]
  · rw [List.map_append]
    rfl
  · intro z
    obtain ⟨p, hp, e⟩ := List.any_eq_true.mp z
    exact (h (List.mem_map.mpr ⟨p, hp, of_decide_eq_true e⟩))
/-- the keys are whole numbers from 0 on, each once -/
def KeysN (kvs : List (Key × V)) : Prop := ∃ ks : List Nat, kvs.map (·.1) = ks.map (fun n : Nat => (Sum.inl (n : Int) : Key)) ∧ ks.Nodup
theorem KeysN.nil : KeysN [] := ⟨[], rfl, List.nodup_nil⟩
theorem KeysN.put {kvs : List (Key × V)} (h : KeysN kvs) (n : Nat) (v : V) : KeysN (putK kvs (Sum.inl (n : Int)) v) := by
  obtain ⟨ks, h1, h2⟩ := h
  by_cases hm : n ∈ ks
  · refine ⟨ks, ?_, h2⟩
    rw [putK_keys_in]
    · exact h1
    · rw [h1]
      exact List.mem_map.mpr ⟨n, hm, rfl⟩
  · refine ⟨ks ++ [n], ?_, ?_⟩
    · rw [putK_keys_out, h1, List.map_append]
      · rfl
      · rw [h1]
        intro z
        obtain ⟨m, hm1, hm2⟩ := List.mem_map.mp z
        injection hm2 with hm2
        exact hm (by rw [← Int.ofNat.inj hm2]; exact hm1)
    · rw [List.nodup_append]
      refine ⟨h2, by simp, fun x hx y hy z => hm ?_⟩
      rw [← List.mem_singleton.mp hy, ← z]
      exact hx
def TreeAt (H : Hp) (a : Addr) (t : Sq28.Tree) (b : Nat) : Prop := ∃ kvs : List (Key × V), H a = some (.dK kvs) ∧ kvs.length ≤ b ∧ (∀ n : Nat, PlaceV H (valV kvs (Sum.inl (n : Int))) (Sq31.place t n)) ∧ KeysN kvs
theorem PlaceV.same {H H' : Hp} {o : Option V} {p : Option (Nat × Nat)} (h : PlaceV H o p) (e : ∀ t xs, H t = some (.tup xs) → H' t = some (.tup xs)) : PlaceV H' o p := by
  unfold PlaceV at *
  cases p with
  | none => exact h
  | some q => obtain ⟨t, h1, h2⟩ := h; exact ⟨t, h1, e _ _ h2⟩
theorem TreeAt.ext {H H' : Hp} {a : Addr} {t : Sq28.Tree} {b : Nat} (h : TreeAt H a t b) (e : ExtN H H') : TreeAt H' a t b := by
  obtain ⟨kvs, h1, h2, h3, h4⟩ := h
  exact ⟨kvs, e _ _ h1 notTbl_dK, h2, fun n => (h3 n).same fun t xs q => e _ _ q notTbl_tup, h4⟩
theorem TreeAt.mono {H : Hp} {a : Addr} {t : Sq28.Tree} {b b' : Nat} (h : TreeAt H a t b) (e : b ≤ b') : TreeAt H a t b' := by
  obtain ⟨kvs, h1, h2, h3, h4⟩ := h
  exact ⟨kvs, h1, Nat.le_trans h2 e, h3, h4⟩
theorem PlaceV.isSome {H : Hp} {o : Option V} {p : Option (Nat × Nat)} (h : PlaceV H o p) : o.isSome = p.isSome := by
  unfold PlaceV at h
  cases p with
  | none => rw [h]; rfl
  | some q => obtain ⟨t, h1, h2⟩ := h; rw [h1]; rfl
theorem place_isSome (t : Sq28.Tree) (x : Nat) : (Sq31.place t x).isSome = (Sq28.get t x).isSome := by
  unfold Sq31.place
  cases Sq28.get t x <;> rfl

section
variable {P : Program} {w : World} {K : PySem.W.Frag} {mg : Str → Option Value} {base : Heap} {c : Cs}
/-! ### is_there -/
def spThere : Sp := fun vs H Q _ => ∃ (a : Addr) (x : Nat) (t : Sq28.Tree) (b : Nat), vs = [.ref a, I x] ∧ TreeAt H a t b ∧ Q (.bl (Sq28.there t x)) H
abbrev s_is_there : Stmt := top 19
theorem sc_is_there : FnScope ["tree", "thing"] ["tree", "thing"] (defScope s_is_there) := ⟨rfl, rfl, rfl, by decide +kernel, rfl, by decide +kernel, by decide +kernel⟩
theorem ok_is_there {f : Addr} {fd : FuncData} {k : Nat} (F : L2.Fun K "is_there" "is_there" s_is_there f fd) (TC : TxtC mg) : FnOk P w K mg base L2.CX0 (k + 1) f fd ["tree", "thing"] spThere := by
  obtain ⟨t0, h0⟩ := TC.root
  obtain ⟨t1, h1⟩ := TC.bin
  refine F.ok sc_is_there (fun vs H Q E h => ?_) fun cdv A outer s H vs Q E hr h => ⟨_, pss_one (ps_ret (pe_or (pe_cmpR op_eq (pv 1) (pe_glob (v := .int 0) rfl h0 ⟨_, rfl⟩) (nomark _)) (pe_or (pe_cmpR op_eq (pv 1) (pe_glob (v := .int 1) rfl h1 ⟨_, rfl⟩) (nomark _)) (pe_one (pe_cmp (pc_din (hu_of hr) (pv 1) (pv 0)) rfl))))), ?_⟩
  · obtain ⟨a, x, t, b, rfl, _⟩ := h
    rfl
  obtain ⟨a, x, t, b, rfl, ⟨kvs, hk, _, hv, _⟩, q⟩ := h
  have e0 : decide (I x = V.int 0) = (x == Sq28.ROOT) := dec_nat x 0
  have e1 : decide (I x = V.int 1) = (x == Sq28.BIN) := dec_nat x 1
  have e2 : (valV kvs (Sum.inl (x : Int))).isSome = (Sq28.get t x).isSome := by rw [(hv x).isSome, place_isSome]
  unfold Sq28.there at q
  refine (⟨_, rfl, rfl, _, rfl, ?_⟩)
  rw [e0]
  cases hx0 : (x == Sq28.ROOT) with
  | true =>
    rw [hx0] at q
    exact iteT q
  | false =>
    rw [hx0, Bool.false_or] at q
    refine iteF ⟨_, rfl, rfl, _, rfl, ?_⟩
    rw [e1]
    cases hx1 : (x == Sq28.BIN) with
    | true =>
      rw [hx1] at q
      exact iteT q
    | false =>
      rw [hx1, Bool.false_or] at q
      refine iteF ⟨_, rfl, _, rfl, a, _, rfl, DGet.k (k := Sum.inl (x : Int)) hk, ?_⟩
      rw [e2]
      exact q

/-! ### is_above -/
def spAbove : Sp := fun vs H Q _ => ∃ (a : Addr) (u x : Nat) (t : Sq28.Tree) (b : Nat), vs = [.ref a, I u, I x] ∧ TreeAt H a t b ∧ WF t ∧ Q (.bl ((Sq28.above t x).contains u)) H
abbrev s_is_above : Stmt := top 20
theorem sc_is_above : FnScope ["tree", "upper", "thing", "step"] ["tree", "upper", "thing"] (defScope s_is_above) := ⟨rfl, rfl, rfl, by decide +kernel, rfl, by decide +kernel, by decide +kernel⟩
theorem ok_is_above {f : Addr} {fd : FuncData} {k : Nat} (F : L2.Fun K "is_above" "is_above" s_is_above f fd) : FnOk P w K mg base L2.CX0 (k + 1) f fd ["tree", "upper", "thing"] spAbove := by
  refine F.ok sc_is_above (fun vs H Q E h => ?_) fun cdv A outer s H vs Q E hr h => ⟨_, pss_cons (ps_set (i := 3) sc_is_above.nd rfl (.inl rfl) (pv 2))
    (pss_cons (ps_while PassesOwn.never (PW.pt (pw_and (pt_cmpR op_ne (pv 3) (pv 1) (nomark _)) (pw_and1 (pt_cmp (pc_din (hu_of hr) (pv 3) (pv 0)) rfl))))
      (pss_one (ps_set (i := 3) sc_is_above.nd rfl (.inl rfl) (pe_ix ix_tup (pe_dget (hu_of hr) (pv 0) (pv 3) (fun _ _ => rfl)) pe_int (fun _ _ => rfl)))))
    (pss_one (ps_ret (pe_cmpR op_eq (pv 3) (pv 1) (nomark _))))), ?_⟩
  · obtain ⟨a, u, x, t, b, rfl, _⟩ := h
    rfl
  obtain ⟨a, u, x, t, b, rfl, ⟨kvs, hk, _, hv, _⟩, wf, q⟩ := h
  obtain ⟨l0, hl0⟩ := chain_ex wf.ranked x
  rw [above_chain wf hl0] at q
  refine ⟨_, rfl, fun m σ H' => H' = H ∧ ∃ (y : Nat) (l : List Nat), l.length = m ∧ σ = [some (.ref a), some (I u), some (I x), some (I y)] ∧ Chain t y l ∧ l.contains u = l0.contains u, ⟨_, rfl, x, l0, rfl, rfl, hl0, rfl⟩, ?_⟩
  rintro m σ H' ⟨rfl, y, l, hm, rfl, hc, he⟩
  refine (⟨_, rfl, _, rfl, rfl, _, rfl, ?_⟩)
  rw [dec_nat]
  cases hy : (y == u) with
  | true =>
    have ey : y = u := by simpa using hy
    refine iteF (iteF ⟨_, rfl, _, rfl, rfl, ?_⟩)
    rw [dec_nat, hy]
    have : l.contains u = true := List.contains_iff_mem.mpr (by rw [← ey]; exact chain_head hc)
    rw [← he, this] at q
    exact q
  | false =>
    have ey : y ≠ u := by simpa using hy
    refine iteT ⟨_, rfl, _, rfl, a, _, rfl, DGet.k (k := Sum.inl (y : Int)) hk, _, rfl, ?_⟩
    rw [(hv y).isSome, place_isSome]
    cases hc with
    | stop hg =>
      rw [hg]
      refine iteF ⟨_, rfl, _, rfl, rfl, ?_⟩
      rw [dec_nat, hy]
      have : ([y] : List Nat).contains u = false := by simp; exact fun z => ey z.symm
      rw [← he, this] at q
      exact q
    | @step _ p l' hg hc' =>
      rw [hg]
      have hvy := hv y
      unfold Sq31.place at hvy
      rw [hg] at hvy
      obtain ⟨tp, hv1, hv2⟩ := hvy
      refine iteT ⟨fun σ' H2 => H2 = H' ∧ σ' = [some (.ref a), some (I u), some (I x), some (I p.under)], fun σ' H2 ⟨e1, e2⟩ => ⟨l'.length, by rw [← hm]; exact Nat.lt_succ_self _, e1, p.under, l', rfl, e2, hc', ?_⟩, ?_⟩
      · rw [← he, List.contains_cons]
        have : (u == y) = false := by simp; exact fun z => ey z.symm
        rw [this, Bool.false_or]
      · exact ⟨_, rfl, _, rfl, a, _, rfl, by rw [← hv1]; exact DGet.k (k := Sum.inl (y : Int)) hk, tp, _, _, _, rfl, rfl, SqT.of hv2, atI_nat (j := 0) rfl, rfl, rfl⟩

/-! ### do_move -/
def md (d : Deed) (x u v : Nat) : Sq28.Deed := ⟨d.id, d.stamp, x, u, v⟩
def ExtBut (a : Addr) (H H' : Hp) : Prop := ∀ b o, H b = some o → b ≠ a → H' b = some o
def spDoMove (c : Cs) : Sp := fun vs H Q _ => ∃ (a m : Addr) (d : Deed) (x u v : Nat) (t : Sq28.Tree) (b : Nat), vs = [.ref a, .ref m] ∧ DeedAt c H m d ∧ d.act = .move x u v ∧ TreeAt H a t b ∧ b < 1000 ∧ WF t ∧
  ∀ H' : Hp, ExtBut a H H' → TreeAt H' a (Sq28.done t (md d x u v)) (b + 1) → Q (I (Sq28.outcome t (md d x u v))) H'
abbrev s_do_move : Stmt := top 21
theorem sc_do_move : FnScope ["tree", "move"] ["tree", "move"] (defScope s_do_move) := ⟨rfl, rfl, rfl, by decide +kernel, rfl, by decide +kernel, by decide +kernel⟩
theorem ok_do_move {f : Addr} {fd : FuncData} {k : Nat} (F : L2.Fun K "do_move" "do_move" s_do_move f fd) (T : Txt K mg c) (TC : TxtC mg) (cT : C8.Cal P w K mg base 1 "is_there" spThere []) (cA : C8.Cal P w K mg base 1 "is_above" spAbove []) :
    FnOk P w K mg base L2.CX0 (k + 2) f fd ["tree", "move"] (spDoMove c) := by
  obtain ⟨t1, h1⟩ := TC.put
  obtain ⟨t2, h2⟩ := TC.notThere
  obtain ⟨t3, h3⟩ := TC.within
  refine F.ok sc_do_move (fun vs H Q E h => ?_) fun cdv A outer s H vs Q E hr h => ⟨_, pss_cons (ps_if (pt_not (pt_val (C8.pe_c cT hr (Nat.succ_le_succ (Nat.zero_le _)) rfl (pa_cons (pv 0) (pa_cons (pe_fld (pv 1) rfl) pa_nil))))) (pss_one (ps_ret (pe_glob (v := .int 2) rfl h2 ⟨_, rfl⟩))) pss_nil)
    (pss_cons (ps_if (pt_val (C8.pe_c cA hr (Nat.succ_le_succ (Nat.zero_le _)) rfl (pa_cons (pv 0) (pa_cons (pe_fld (pv 1) rfl) (pa_cons (pe_fld (pv 1) rfl) pa_nil))))) (pss_one (ps_ret (pe_glob (v := .int 3) rfl h3 ⟨_, rfl⟩))) pss_nil)
    (pss_cons (ps_dput (hu_of hr) (pv 0) (pe_fld (pv 1) rfl) (pe_tup (pa_cons (pe_fld (pv 1) rfl) (pa_cons (pe_fld (pv 1) rfl) pa_nil))) rfl)
    (pss_one (ps_ret (pe_glob (v := .int 1) rfl h1 ⟨_, rfl⟩))))), ?_⟩
  · obtain ⟨a, m, d, x, u, v, t, b, rfl, _⟩ := h
    rfl
  obtain ⟨a, m, d, x, u, v, t, b, rfl, ⟨dx, ts, hm, hts⟩, hact, htree, hb, wf, q⟩ := h
  have hf : dF ts d = ([("number", I d.id), ("stamp", .ref ts), ("thing", I x), ("under", I u), ("label", I v)] : List (Str × V)) := by unfold dF; rw [hact]
  have hC : dC c d = c.M := by unfold dC; rw [hact]
  rw [hf, hC] at hm
  have lt : List.lookup ("thing" : Str) ([("number", I d.id), ("stamp", .ref ts), ("thing", I x), ("under", I u), ("label", I v)] : List (Str × V)) = some (I x) := (lk_past (by decide +kernel)).trans ((lk_past (by decide +kernel)).trans lk_here)
  have lu : List.lookup ("under" : Str) ([("number", I d.id), ("stamp", .ref ts), ("thing", I x), ("under", I u), ("label", I v)] : List (Str × V)) = some (I u) := (lk_past (by decide +kernel)).trans ((lk_past (by decide +kernel)).trans ((lk_past (by decide +kernel)).trans lk_here))
  have ll : List.lookup ("label" : Str) ([("number", I d.id), ("stamp", .ref ts), ("thing", I x), ("under", I u), ("label", I v)] : List (Str × V)) = some (I v) := (lk_past (by decide +kernel)).trans ((lk_past (by decide +kernel)).trans ((lk_past (by decide +kernel)).trans ((lk_past (by decide +kernel)).trans lk_here)))
  refine ⟨_, rfl, _, rfl, m, c.M, dx, _, _, rfl, hm, T.clM, T.nMu, lu, a, u, t, b, rfl, htree, _, rfl, ?_⟩
  cases hth : Sq28.there t u with
  | false =>
    have e : Sq28.outcome t (md d x u v) = 2 := by unfold Sq28.outcome; exact if_pos hth
    have e2 : Sq28.done t (md d x u v) = t := by unfold Sq28.done; rw [e]; rfl
    have := q H (fun _ _ z _ => z) (by rw [e2]; exact htree.mono (Nat.le_succ _))
    rw [e] at this
    exact iteT this
  | true =>
    refine iteF ⟨_, rfl, _, rfl, m, c.M, dx, _, _, rfl, hm, T.clM, T.nMt, lt, _, rfl, m, c.M, dx, _, _, rfl, hm, T.clM, T.nMu, lu, a, x, u, t, b, rfl, htree, wf, _, rfl, ?_⟩
    have e0 : Sq28.outcome t (md d x u v) = if (Sq28.above t u).contains x = true then 3 else 1 := by
      unfold Sq28.outcome
      exact if_neg (by rw [show (md d x u v).under = u from rfl, hth]; exact fun z => Bool.noConfusion z)
    cases hab : (Sq28.above t u).contains x with
    | true =>
      have e : Sq28.outcome t (md d x u v) = 3 := by rw [e0, if_pos hab]
      have e2 : Sq28.done t (md d x u v) = t := by unfold Sq28.done; rw [e]; rfl
      have := q H (fun _ _ z _ => z) (by rw [e2]; exact htree.mono (Nat.le_succ _))
      rw [e] at this
      exact iteT this
    | false =>
      have e : Sq28.outcome t (md d x u v) = 1 := by rw [e0, if_neg (by rw [hab]; exact Bool.false_ne_true)]
      have e2 : Sq28.done t (md d x u v) = Sq28.put ⟨x, u, v⟩ t := by unfold Sq28.done; rw [e]; rfl
      obtain ⟨kvs, hk, hkl, hv, hks⟩ := htree
      refine iteF ⟨_, rfl, m, c.M, dx, _, _, rfl, hm, T.clM, T.nMu, lu, _, rfl, m, c.M, dx, _, _, rfl, hm, T.clM, T.nMl, ll, (by show 2 ≤ sizeLine; decide), fun p hp => ?_⟩
      have hma : m ≠ p := ne_of_none hm hp
      have hap : a ≠ p := ne_of_none hk hp
      refine ⟨_, rfl, _, rfl, m, c.M, dx, _, _, rfl, by rw [upd_ne hma]; exact hm, T.clM, T.nMt, lt, a, _, rfl, DPut.k (k := Sum.inl (x : Int)) (by rw [upd_ne hap]; exact hk) (small1000 (by omega)), ?_⟩
      have keep : ∀ t' xs, H t' = some (.tup xs) → upd (upd H p (.tup [I u, I v])) a (.dK (putK kvs (Sum.inl (x : Int)) (.ref p))) t' = some (.tup xs) := fun t' xs z => by
        rw [upd_ne (fun y => by rw [y, hk] at z; cases z), upd_ne (ne_of_none z hp)]
        exact z
      have fin := q (upd (upd H p (.tup [I u, I v])) a (.dK (putK kvs (Sum.inl (x : Int)) (.ref p)))) (fun b' o z1 z2 => by rw [upd_ne z2, upd_ne (ne_of_none z1 hp)]; exact z1) ⟨putK kvs (Sum.inl (x : Int)) (.ref p), upd_same, by have := putK_len kvs (Sum.inl (x : Int)) (.ref p); omega, fun n => ?_, hks.put x _⟩
      · rw [e] at fin
        exact fin
      · rw [e2, valV_put]
        unfold Sq31.place
        rw [get_put wf.rises]
        by_cases hn : n = x
        · rw [if_pos (by rw [hn]), if_pos (show n = (Place.mk x u v).thing from hn)]
          exact ⟨p, rfl, by rw [upd_ne hap.symm, upd_same]⟩
        · rw [if_neg (fun z => hn (by injection z with z; exact Int.ofNat.inj z)), if_neg (show ¬ n = (Place.mk x u v).thing from hn)]
          exact (hv n).same keep
end
end Hb
end

section
set_option Elab.async false
set_option linter.all false
set_option maxRecDepth 100000
set_option maxHeartbeats 2500000
namespace Hb
open L2 PySem PySem.Spec PyProof.Rows LamX
open Sq31 (Deed Act)
open Sq28 (Place)
section
variable {P : Program} {w : World} {K : PySem.W.Frag} {mg : Str → Option Value} {base : Heap} {c : Cs}
/-! ### tree_of -/
def movedL (L : List Row) : List Sq28.Deed := (seconds L).filterMap Deed.moved
def spTreeOf (K : PySem.W.Frag) (c : Cs) : Sp := fun vs H Q _ => ∃ (l : Addr) (L : List Row), vs = [.ref l] ∧ SqL K H l (refs L) ∧ Rows c H L ∧ (∀ r ∈ L, r.2.isMove = true) ∧ L.length ≤ 900 ∧
  ∀ (H' : Hp) (p : Addr), Same H H' → H p = none → TreeAt H' p (Sq28.treeOf (movedL L)) 900 → Q (.ref p) H'
abbrev s_tree_of : Stmt := top 22
theorem sc_tree_of : FnScope ["moves", "tree", "move"] ["moves"] (defScope s_tree_of) := ⟨rfl, rfl, rfl, by decide +kernel, rfl, by decide +kernel, by decide +kernel⟩
theorem isMove_act {d : Deed} (h : d.isMove = true) : ∃ x u v, d.act = .move x u v := by
  obtain ⟨id, st, act⟩ := d
  cases act with
  | move x u v => exact ⟨x, u, v, rfl⟩
  | back i => cases h
  | again i => cases h
theorem moved_act {d : Deed} {x u v : Nat} (h : d.act = .move x u v) : d.moved = some (md d x u v) := by
  unfold Deed.moved
  rw [h]
  rfl
theorem ok_tree_of {f : Addr} {fd : FuncData} {k : Nat} (F : L2.Fun K "tree_of" "tree_of" s_tree_of f fd) (cD : C8.Cal P w K mg base k "do_move" (spDoMove c) []) :
    FnOk P w K mg base L2.CX0 (k + 1) f fd ["moves"] (spTreeOf K c) := by
  refine F.ok sc_tree_of (fun vs H Q E h => ?_) fun cdv A outer s H vs Q E hr h => ⟨_, pss_cons (ps_set (i := 1) sc_tree_of.nd rfl (.inl rfl) pe_dnewK)
    (pss_cons (ps_for PassesOwn.never rfl (pi_list (pv 0)) (pg_name (i := 2) sc_tree_of.nd rfl (.inl rfl))
      (pss_one (ps_expr (C8.pe_c cD hr (Nat.le_refl _) rfl (pa_cons (pv 1) (pa_cons (pv 2) pa_nil))))))
    (pss_one (ps_ret ((pv 1))))), ?_⟩
  · obtain ⟨l, L, rfl, _⟩ := h
    rfl
  obtain ⟨l, L, rfl, hS, hR, hM, hl, q⟩ := h
  intro d hd
  refine ⟨_, rfl, l, rfl, ⟨_, (same_new (Same.refl H) hd).seq hS⟩, for_list (K := K) (a := l) (xs := refs L) (fun i σ H' => ∃ v : Option V, σ = [some (.ref l), some (.ref d), v] ∧ Same H H' ∧ TreeAt H' d (Sq28.treeOf (movedL (L.take i))) i)
    ⟨none, rfl, same_new (Same.refl H) hd, [], upd_same, Nat.le_refl _, fun n => rfl, KeysN.nil⟩ (fun i σ H' _ ⟨_, _, z, _⟩ => z.seq hS) ?_ ?_⟩
  · rintro i y σ H' hi ⟨v, rfl, e, ht⟩
    obtain ⟨r, hr1, rfl⟩ := refs_at hi
    have hmem := List.mem_of_getElem? hr1
    obtain ⟨x, u, lb, hact⟩ := isMove_act (hM r hmem)
    have ilt : i < L.length := (List.getElem?_eq_some_iff.mp hr1).1
    have st : Sq28.treeOf (movedL (L.take (i + 1))) = Sq28.done (Sq28.treeOf (movedL (L.take i))) (md r.2 x u lb) := by
      unfold Sq28.treeOf movedL seconds
      rw [List.take_add_one, hr1, List.map_append, List.filterMap_append, List.foldl_append]
      show List.foldl _ _ (List.filterMap _ [r.2]) = _
      rw [List.filterMap_cons, moved_act hact]
      rfl
    refine ⟨_, rfl, _, rfl, d, r.1, r.2, x, u, lb, _, i, rfl, (hR.ext (extN_of_same e)) r hmem, hact, ht, by omega, wf_treeOf _, fun H2 e2 t2 => ⟨some (.ref r.1), rfl, fun b o z => e2 b o (e b o z) (ne_of_none z hd), ?_⟩⟩
    rw [st]
    exact t2
  · rintro σ H' ⟨v, rfl, e, ht⟩
    have e5 : L.take (refs L).length = L := List.take_of_length_le (by unfold refs; rw [List.length_map]; exact Nat.le_refl _)
    rw [e5] at ht
    exact ⟨_, rfl, q H' d e hd (ht.mono (by unfold refs; rw [List.length_map]; exact hl))⟩

/-! ### elsewhere -/
def spElse (K : PySem.W.Frag) : Sp := fun vs H Q _ => ∃ (a b : Addr) (t u : Sq28.Tree) (m n : Nat), vs = [.ref a, .ref b] ∧ TreeAt H a t m ∧ TreeAt H b u n ∧
  ∀ (H' : Hp) (p : Addr), Same H H' → H p = none → H' p = some (.lst ((Sq31.otherwise t u).map I)) → Q (.ref p) H'
abbrev s_elsewhere : Stmt := top 23
theorem sc_elsewhere : FnScope ["before", "after", "thing"] ["before", "after"] (defScope s_elsewhere) := ⟨rfl, rfl, rfl, by decide +kernel, rfl, by decide +kernel, by decide +kernel⟩
/-- a place as data -/
def plD : Option (Nat × Nat) → PyData
  | none => .none
  | some (u, l) => .tuple [.int u, .int l]
theorem plD_dp {H : Hp} {o : Option V} {p : Option (Nat × Nat)} (h : PlaceV H o p) : Dp K H (o.getD .non) (plD p) := by
  cases p with
  | none =>
    have h : o = none := h
    rw [h]
    exact .non
  | some q =>
    obtain ⟨t, h1, h2⟩ := h
    rw [h1]
    exact .tup (SqT.of h2) (.cons (.int _) (.cons (.int _) .nil))
theorem plD_shaped (p : Option (Nat × Nat)) : SeqAt.shaped (plD p) = true := by
  cases p <;> rfl
theorem plD_eqv (p q : Option (Nat × Nat)) : PyData.eqv (plD p) (plD q) = (p == q) := by
  cases p with
  | none => cases q <;> rfl
  | some p =>
    cases q with
    | none => rfl
    | some q =>
      obtain ⟨a, b⟩ := p
      obtain ⟨c, d⟩ := q
      rw [Bool.eq_iff_iff]
      simp [plD, PyData.eqv, PyData.eqvAll]
      try omega
theorem ok_elsewhere {f : Addr} {fd : FuncData} {k : Nat} (F : L2.Fun K "elsewhere" "elsewhere" s_elsewhere f fd) (T : Txt K mg c) (TC : TxtC mg) : FnOk P w K mg base L2.CX0 (k + 1) f fd ["before", "after"] (spElse K) := by
  obtain ⟨t0, h0⟩ := TC.last
  refine F.ok sc_elsewhere (fun vs H Q E h => ?_) fun cdv A outer s H vs Q E hr h => ⟨_, pss_one (ps_ret (pe_lc (own := [("thing", 2)]) (g := gName 2) (tt := tTest (tOp (rNeD K) (tDGet1 (tVar 0) (tVar 2)) (tDGet1 (tVar 1) (tVar 2)))) (te := tVar 2) rfl sc_elsewhere.nd
      (pi_range1 rfl T.bRange (pa_cons (pe_op op_add (pe_glob (v := .int 63) rfl h0 ⟨_, rfl⟩) pe_int) pa_nil)) (blkOk_by (own := [("thing", 2)]) (N := ["before", "after", "thing"]) (sc := defScope s_elsewhere) (by decide +kernel))
      (fun _ _ _ _ _ => pg_name (i := 2) sc_elsewhere.nd rfl (Or.inl rfl))
      (fun _ _ _ _ _ => pts_one (pt_cmpR (op_neD hr.units) (pe_dget1 (hu_of hr) (pv 0) (pv 2) ⟨rfl, rfl, rfl, rfl⟩) (pe_dget1 (hu_of hr) (pv 1) (pv 2) ⟨rfl, rfl, rfl, rfl⟩) (nomark _)))
      (fun _ _ _ _ _ => pv 2))), ?_⟩
  · obtain ⟨a, b, t, u, m, n, rfl, _⟩ := h
    rfl
  obtain ⟨a, b, t, u, m, n, rfl, ⟨k1, hk1, _, hv1, _⟩, ⟨k2, hk2, _, hv2, _⟩, q⟩ := h
  refine ⟨_, _, rfl, rfl, 64, rfl, by decide, by decide, fun D hD => lc_range (lo := 0) (n := 64) (fun i H' => Same H H' ∧ H' D = some (.lst ((((List.range i).filter fun x => Sq31.place t x != Sq31.place u x)).map I)))
    ⟨same_new (Same.refl H) hD, upd_same⟩ ?_ ?_⟩
  · rintro i H' hi ⟨e, hd⟩
    have hv1' := (hv1 i).same (H' := H') fun _ _ z => e _ _ z
    have hv2' := (hv2 i).same (H' := H') fun _ _ z => e _ _ z
    refine ⟨rfl, _, rfl, a, rfl, .inl ⟨k1, .inl (e _ _ hk1)⟩, _, rfl, _, by rw [Int.zero_add]; exact DGet.k (k := Sum.inl (i : Int)) (e _ _ hk1), _, rfl, b, rfl, .inl ⟨k2, .inl (e _ _ hk2)⟩, _, rfl, _, by rw [Int.zero_add]; exact DGet.k (k := Sum.inl (i : Int)) (e _ _ hk2), _, _, plD_dp hv1', plD_dp hv2', plD_shaped _, plD_shaped _, _, rfl, ?_⟩
    rw [plD_eqv]
    have fl : ∀ z, (Sq31.place t i != Sq31.place u i) = z → (List.range (i + 1)).filter (fun x => Sq31.place t x != Sq31.place u x) = (List.range i).filter (fun x => Sq31.place t x != Sq31.place u x) ++ (if z = true then [i] else []) := fun z hz => by
      rw [List.range_succ, List.filter_append, List.filter_cons, hz]
      cases z <;> rfl
    cases hz : (Sq31.place t i != Sq31.place u i) with
    | false =>
      have hz2 : (!(Sq31.place t i == Sq31.place u i)) = false := hz
      rw [hz2]
      refine iteF ⟨e, ?_⟩
      rw [fl false hz, hd]
      simp
    | true =>
      have hz2 : (!(Sq31.place t i == Sq31.place u i)) = true := hz
      rw [hz2]
      refine iteT ⟨_, rfl, _, hd, ?_, same_write e hD, ?_⟩
      · rw [List.length_map]
        have h3 := List.length_filter_le (fun x => Sq31.place t x != Sq31.place u x) (List.range i)
        rw [List.length_range] at h3
        exact small1000 (by omega)
      · rw [upd_same, fl true hz, List.map_append, Int.zero_add]
        rfl
  · rintro H' ⟨e, hd⟩
    exact q H' D e hD hd
end
end Hb
end

section
set_option Elab.async false
set_option linter.all false
set_option maxRecDepth 10000
namespace Hb
open Sq31 (Deed Act House)

/-! ### the order of stamps -/
theorem leS_iff {a b : Sq28.Stamp} : leS a b = true ↔ a.count < b.count ∨ (a.count = b.count ∧ a.hand ≤ b.hand) := decide_eq_true_iff
theorem before_iff {a b : Sq28.Stamp} : a.before b = true ↔ a.count < b.count ∨ (a.count = b.count ∧ a.hand < b.hand) := by
  unfold Sq28.Stamp.before
  simp
theorem stamp_ext {a b : Sq28.Stamp} (h1 : a.count = b.count) (h2 : a.hand = b.hand) : a = b := by
  cases a; cases b; simp_all
theorem before_of_le {a b : Sq28.Stamp} (h : leS a b = true) (n : a ≠ b) : a.before b = true := by
  rw [leS_iff] at h
  rw [before_iff]
  rcases h with h | ⟨h1, h2⟩
  · exact .inl h
  · refine .inr ⟨h1, ?_⟩
    have : a.hand ≠ b.hand := fun z => n (stamp_ext h1 z)
    omega
theorem before_asymm {a b : Sq28.Stamp} (h : a.before b = true) : b.before a = false := by
  cases q : b.before a with
  | false => rfl
  | true =>
    rw [before_iff] at h q
    omega
theorem before_trans {a b c : Sq28.Stamp} (h : a.before b = true) (h2 : b.before c = true) : a.before c = true := by
  rw [before_iff] at *
  omega
theorem before_irrefl (a : Sq28.Stamp) : a.before a = false := by
  cases q : a.before a with
  | false => rfl
  | true => rw [before_iff] at q; omega
def leD (a b : Deed) : Bool := leS a.stamp b.stamp
def sortD (l : List Deed) : List Deed := l.mergeSort leD
theorem seconds_sort (L : List Row) : seconds (sortL L) = sortD (seconds L) := by
  unfold seconds sortL sortD
  exact List.map_mergeSort fun _ _ _ _ => rfl
theorem leD_trans : ∀ a b c : Deed, leD a b = true → leD b c = true → leD a c = true := fun a b c h1 h2 => by
  unfold leD at *
  rw [leS_iff] at *
  omega
theorem leD_total : ∀ a b : Deed, (leD a b || leD b a) = true := fun a b => by
  unfold leD
  rw [Bool.or_eq_true, leS_iff, leS_iff]
  omega
/-- strictly by stamps -/
def SS (l : List Deed) : Prop := l.Pairwise fun a b => a.stamp.before b.stamp = true
/-- no two with one stamp -/
def DS (l : List Deed) : Prop := l.Pairwise fun a b => a.stamp ≠ b.stamp
theorem ss_sort {l : List Deed} (h : DS l) : SS (sortD l) := by
  have h1 : (sortD l).Pairwise (fun a b => leD a b = true) := List.pairwise_mergeSort leD_trans leD_total l
  have h2 : (sortD l).Pairwise (fun a b => a.stamp ≠ b.stamp) := (List.mergeSort_perm l leD).symm.pairwise h fun h z => h z.symm
  exact (h1.and h2).imp fun ⟨a, b⟩ => before_of_le a b
theorem perm_sort (l : List Deed) : (sortD l).Perm l := List.mergeSort_perm l leD
theorem ss_unique : ∀ {l m : List Deed}, SS l → SS m → l.Perm m → l = m
  | [], m, _, _, p => (List.Perm.eq_nil p.symm).symm
  | a :: l, [], _, _, p => absurd p.length_eq (by simp)
  | a :: l, b :: m, h1, h2, p => by
    obtain ⟨a1, a2⟩ := List.pairwise_cons.mp h1
    obtain ⟨b1, b2⟩ := List.pairwise_cons.mp h2
    have e : a = b := by
      have ha : a ∈ b :: m := p.mem_iff.mp List.mem_cons_self
      have hb : b ∈ a :: l := p.mem_iff.mpr List.mem_cons_self
      rcases (List.mem_cons.mp ha) with e | ha
      · exact e
      · rcases (List.mem_cons.mp hb) with e | hb
        · exact e.symm
        · have := before_asymm (a1 b hb)
          rw [b1 a ha] at this
          cases this
    subst e
    rw [ss_unique a2 b2 (List.perm_cons a |>.mp p)]

/-! ### learn -/
theorem learn_in {d : Deed} : ∀ {l : List Deed}, SS l → d ∈ l → Sq31.learn d l = l
  | [], _, h => nomatch h
  | e :: l, hs, h => by
    obtain ⟨a1, a2⟩ := List.pairwise_cons.mp hs
    unfold Sq31.learn
    rcases (List.mem_cons.mp h) with rfl | h
    · rw [if_neg (by rw [before_irrefl]; exact Bool.false_ne_true), if_pos rfl]
    · have hb := a1 d h
      rw [if_neg (by rw [before_asymm hb]; exact Bool.false_ne_true), if_neg (fun z => by rw [z, before_irrefl] at hb; cases hb), learn_in a2 h]
theorem learn_new {d : Deed} : ∀ {l : List Deed}, SS l → (∀ e ∈ l, d.stamp ≠ e.stamp) → SS (Sq31.learn d l) ∧ (Sq31.learn d l).Perm (d :: l)
  | [], _, _ => ⟨List.pairwise_singleton _ _, List.Perm.refl _⟩
  | e :: l, hs, h => by
    obtain ⟨a1, a2⟩ := List.pairwise_cons.mp hs
    unfold Sq31.learn
    by_cases hb : d.stamp.before e.stamp = true
    · rw [if_pos hb]
      refine ⟨List.pairwise_cons.mpr ⟨fun x hx => ?_, hs⟩, List.Perm.refl _⟩
      rcases (List.mem_cons.mp hx) with rfl | hx
      · exact hb
      · exact before_trans hb (a1 x hx)
    · rw [if_neg hb, if_neg (h e List.mem_cons_self)]
      obtain ⟨i1, i2⟩ := learn_new a2 fun x hx => h x (List.mem_cons_of_mem _ hx)
      refine ⟨List.pairwise_cons.mpr ⟨fun x hx => ?_, i1⟩, (i2.cons e).trans (List.Perm.swap d e l)⟩
      rcases List.mem_cons.mp (i2.mem_iff.mp hx) with rfl | hx
      · have n := h e List.mem_cons_self
        refine before_of_le (leS_iff.mpr ?_) (fun z => n z.symm)
        rw [before_iff] at hb
        have : ¬ (e.stamp.count = x.stamp.count ∧ e.stamp.hand = x.stamp.hand) := fun z => n (stamp_ext z.1.symm z.2.symm)
        omega
      · exact a1 x hx
theorem ss_ds {l : List Deed} (h : SS l) : DS l := h.imp fun q z => by rw [z, before_irrefl] at q; cases q
theorem ds_cons {d : Deed} {l : List Deed} (h : DS l) (n : ∀ e ∈ l, d.stamp ≠ e.stamp) : DS (d :: l) := List.pairwise_cons.mpr ⟨n, h⟩
theorem ds_perm {l m : List Deed} (p : l.Perm m) (h : DS l) : DS m := p.pairwise h fun h z => h z.symm
/-- learning, told by sorting -/
theorem learn_sort {d : Deed} {l : List Deed} (h : DS l) (n : ∀ e ∈ l, d.stamp ≠ e.stamp) : Sq31.learn d (sortD l) = sortD (l ++ [d]) := by
  have n' : ∀ e ∈ sortD l, d.stamp ≠ e.stamp := fun e he => n e ((perm_sort l).mem_iff.mp he)
  obtain ⟨h1, h2⟩ := learn_new (ss_sort h) n'
  have p : (d :: l).Perm (l ++ [d]) := (List.perm_append_singleton d l).symm
  refine ss_unique h1 (ss_sort (ds_perm p (ds_cons h n))) ?_
  exact (h2.trans ((perm_sort l).cons d)).trans (p.trans (perm_sort _).symm)
theorem learn_sort_in {d : Deed} {l : List Deed} (h : DS l) (n : d ∈ l) : Sq31.learn d (sortD l) = sortD l := learn_in (ss_sort h) ((perm_sort l).mem_iff.mpr n)
theorem sort_congr {l m : List Deed} (h : DS l) (p : l.Perm m) : sortD l = sortD m :=
  ss_unique (ss_sort h) (ss_sort (ds_perm p h)) (((perm_sort l).trans p).trans (perm_sort m).symm)

/-! ### holds, live -/
theorem of_beq {e : Deed} {n : Nat} : (e.of_ == some n) = true ↔ e.of_ = some n := by simp
theorem back_of {e : Deed} {n : Nat} (h : e.of_ = some n) : turnStep (fun _ => none) e n = some (!e.isBack) := by
  rw [(turn_some h).2.2.2]
  exact if_pos rfl
theorem lastTurn_snoc (l : List Deed) (d : Deed) : lastTurn (l ++ [d]) = turnStep (lastTurn l) d := by
  unfold lastTurn
  rw [List.foldl_append]
  rfl
theorem snoc_induct {α : Type} {P : List α → Prop} (h0 : P []) (h1 : ∀ l a, P l → P (l ++ [a])) : ∀ l, P l := fun l => by
  have : ∀ m : List α, P m.reverse := fun m => by
    induction m with
    | nil => exact h0
    | cons a m ih => rw [List.reverse_cons]; exact h1 _ _ ih
  rw [← List.reverse_reverse l]
  exact this _
theorem lastTurn_filter (n : Nat) : ∀ l : List Deed, lastTurn l n = ((l.filter fun e => e.of_ == some n).getLast?).map fun e => !e.isBack := by
  refine snoc_induct rfl fun l a ih => ?_
  rw [lastTurn_snoc, List.filter_append, List.filter_cons]
  cases ho : a.of_ with
  | none =>
    rw [(turn_none ho).2, ih]
    have : ((none : Option Nat) == some n) = false := rfl
    rw [this]
    simp
  | some j =>
    rw [(turn_some ho).2.2.2]
    dsimp only
    by_cases hj : n = j
    · subst hj
      rw [if_pos rfl]
      simp
    · have : (some j == some n) = false := by simp; exact fun z => hj z.symm
      rw [if_neg hj, this, ih]
      simp
theorem holds_is (l : List Deed) (d : Deed) : Sq31.holds l d = heldIn l d.id := by
  unfold Sq31.holds heldIn
  rw [lastTurn_filter]
  cases (l.filter fun e => e.of_ == some d.id).getLast? <;> rfl
theorem live_is (l : List Deed) : Sq31.live l = (l.filter fun d => d.isMove && heldIn l d.id).filterMap Deed.moved := by
  unfold Sq31.live
  congr 2
  funext d
  rw [holds_is]
theorem filter_seconds (L : List Row) (p : Deed → Bool) : seconds (L.filter fun r => p r.2) = (seconds L).filter p := by
  unfold seconds
  rw [List.filter_map]
  rfl
theorem held_live (L : List Row) : movedL (heldL L) = Sq31.live (sortD (seconds L)) := by
  unfold movedL heldL
  rw [filter_seconds (sortL L) (fun d => d.isMove && heldIn (seconds (sortL L)) d.id), live_is, seconds_sort]
theorem held_move {L : List Row} : ∀ r ∈ heldL L, r.2.isMove = true := fun r hr => by
  have := (List.mem_filter.mp hr).2
  rw [Bool.and_eq_true] at this
  exact this.1
end Hb
end

section
set_option Elab.async false
set_option linter.all false
set_option maxRecDepth 10000
namespace Hb
open Sq31 (Deed Act House)

/-! ### undo -/
theorem fold_last {α β : Type} (p : α → Bool) (f : α → β) : ∀ l : List α, l.foldl (fun acc d => if p d = true then some (f d) else acc) none = ((l.filter p).getLast?).map f := by
  refine snoc_induct rfl fun l a ih => ?_
  rw [List.foldl_append, ih, List.filter_append, List.filter_cons]
  cases hp : p a <;> simp [hp]
theorem fold_seconds {β : Type} (f : β → Deed → β) : ∀ (L : List Row) (b : β), L.foldl (fun b r => f b r.2) b = (seconds L).foldl f b
  | [], b => rfl
  | r :: L, b => fold_seconds f L (f b r.2)
theorem undo_is (k : Nat) (L : List Row) (h : House) (e : h.desk k = sortD (seconds L)) : undoOf k L = (h.lastOwn k).map Deed.id := by
  unfold undoOf House.lastOwn House.own
  have e1 : (heldL L).foldl (undoStep k) none = (seconds (heldL L)).foldl (fun acc (d : Deed) => if ownMove k d = true then some d.id else acc) none := fold_seconds (fun acc (d : Deed) => if ownMove k d = true then some d.id else acc) (heldL L) none
  rw [e1, fold_last]
  congr 2
  unfold heldL
  rw [filter_seconds (sortL L) (fun d => d.isMove && heldIn (seconds (sortL L)) d.id), seconds_sort, e, List.filter_filter, List.filter_filter]
  congr 1
  funext d
  rw [holds_is]
  unfold ownMove
  cases d.isMove <;> cases heldIn (sortD (seconds L)) d.id <;> cases (d.stamp.hand == k) <;> rfl

/-! ### redo -/
def redoR (k : Nat) (g : Nat → Option Bool) (d : Deed) : Bool := match d.of_ with
  | none => false
  | some j => d.stamp.hand == k && (d.isBack && !(g j).getD true)
def redoAns (k : Nat) (l : List Deed) (o : Option Deed) : Option Nat := match o with
  | none => none
  | some b => if (l.any fun d => ownMove k d && b.stamp.before d.stamp) = true then none else b.of_
theorem redo_fold (k : Nat) (g : Nat → Option Bool) : ∀ l : List Deed, SS l → l.foldl (redoStep k g) none = redoAns k l ((l.filter (redoR k g)).getLast?) := by
  refine snoc_induct (fun _ => rfl) fun l a ih hs => ?_
  obtain ⟨h1, _, h3⟩ := List.pairwise_append.mp hs
  have ih := ih h1
  have hba : ∀ x ∈ l, x.stamp.before a.stamp = true := fun x hx => h3 x hx a (List.mem_singleton.mpr rfl)
  rw [List.foldl_append]
  show redoStep k g (l.foldl (redoStep k g) none) a = _
  rw [ih, List.filter_append, List.filter_cons]
  cases ho : a.of_ with
  | none =>
    have hm := (turn_none ho).1
    have hr : redoR k g a = false := by unfold redoR; rw [ho]
    have hst : ∀ acc, redoStep k g acc a = if (a.stamp.hand == k) = true then none else acc := fun acc => by unfold redoStep; rw [ho]
    rw [hr, hst]
    simp only [Bool.false_eq_true, if_false, List.filter_nil, List.append_nil]
    cases hq : (l.filter (redoR k g)).getLast? with
    | none => unfold redoAns; split <;> rfl
    | some b =>
      have hb : b ∈ l := (List.mem_filter.mp (List.mem_of_getLast? hq)).1
      unfold redoAns
      dsimp only
      rw [List.any_append]
      have : ([a].any fun d => ownMove k d && b.stamp.before d.stamp) = (a.stamp.hand == k) := by
        simp only [List.any_cons, List.any_nil, Bool.or_false, hba b hb, Bool.and_true]
        unfold ownMove
        rw [hm, Bool.true_and]
      rw [this]
      cases (a.stamp.hand == k) <;> simp
  | some j =>
    have hm := (turn_some ho).1
    have hr : redoR k g a = (a.stamp.hand == k && (a.isBack && !(g j).getD true)) := by unfold redoR; rw [ho]
    have hst : ∀ acc, redoStep k g acc a = if redoR k g a = true then some j else acc := fun acc => by unfold redoStep; rw [ho, hr]
    have hno : ∀ b : Deed, ([a].any fun d => ownMove k d && b.stamp.before d.stamp) = false := fun b => by
      simp only [List.any_cons, List.any_nil, Bool.or_false]
      unfold ownMove
      rw [hm]
      rfl
    rw [hst]
    cases hra : redoR k g a with
    | false =>
      simp only [Bool.false_eq_true, if_false, List.filter_nil, List.append_nil]
      cases hq : (l.filter (redoR k g)).getLast? with
      | none => rfl
      | some b =>
        unfold redoAns
        dsimp only
        rw [List.any_append, hno, Bool.or_false]
    | true =>
      simp only [if_true, List.filter_nil, List.getLast?_append, List.getLast?_singleton, Option.some_or]
      unfold redoAns
      dsimp only
      rw [List.any_append, hno, Bool.or_false, if_neg, ho]
      rw [Bool.not_eq_true, List.any_eq_false]
      intro x hx z
      rw [Bool.and_eq_true, before_asymm (hba x hx)] at z
      exact Bool.false_ne_true z.2
theorem redo_is (k : Nat) (L : List Row) (h : House) (e : h.desk k = sortD (seconds L)) (hs : SS (sortD (seconds L)))
    (hid : ∀ d ∈ seconds L, ∀ d' ∈ seconds L, d.id = d'.id → d = d')
    (ht : ∀ b ∈ seconds L, b.stamp.hand = k → ∀ j, b.of_ = some j → ∃ d ∈ seconds L, d.id = j ∧ ownMove k d = true) : redoOf k L = (h.nextOwn k).map Deed.id := by
  unfold redoOf
  rw [seconds_sort, redo_fold k _ _ hs]
  have hmem : ∀ d, d ∈ sortD (seconds L) ↔ d ∈ seconds L := fun d => (perm_sort _).mem_iff
  have hown : ∀ d, d ∈ h.own k ↔ d ∈ sortD (seconds L) ∧ ownMove k d = true := fun d => by
    unfold House.own
    rw [e, List.mem_filter]
    exact Iff.rfl
  -- the test of a taking back
  have hR : ∀ b ∈ sortD (seconds L), (b.isBack && (b.stamp.hand == k && (h.own k).any fun d => b.of_ == some d.id && !Sq31.holds (h.desk k) d)) = redoR k (lastTurn (sortD (seconds L))) b := fun b hb => by
    unfold redoR
    cases ho : b.of_ with
    | none =>
      have hm := (turn_none ho).1
      have : b.isBack = false := by
        obtain ⟨id, st, act⟩ := b
        cases act with
        | move x u v => rfl
        | back i => cases ho
        | again i => cases ho
      rw [this]
      rfl
    | some j =>
      dsimp only
      cases hk : (b.stamp.hand == k) with
      | false => rw [Bool.false_and, Bool.and_false]; rfl
      | true =>
        rw [Bool.true_and, Bool.true_and]
        congr 1
        obtain ⟨d, hd, hdj, hdo⟩ := ht b ((hmem b).mp hb) (by simpa using hk) j ho
        rw [Bool.eq_iff_iff, List.any_eq_true]
        constructor
        · rintro ⟨d', hd', hz⟩
          rw [Bool.and_eq_true, holds_is, e] at hz
          have hj : j = d'.id := by simpa using hz.1
          rw [hj]
          exact hz.2
        · intro hz
          refine ⟨d, (hown d).mpr ⟨(hmem d).mpr hd, hdo⟩, ?_⟩
          rw [Bool.and_eq_true, holds_is, e, hdj]
          exact ⟨by simp, hz⟩
  have hlb : h.lastBack k = ((sortD (seconds L)).filter (redoR k (lastTurn (sortD (seconds L))))).getLast? := by
    unfold House.lastBack
    rw [e]
    congr 1
    refine List.filter_congr fun b hb => ?_
    have := hR b hb
    rw [e] at this
    exact this
  unfold House.nextOwn
  rw [hlb]
  cases hq : ((sortD (seconds L)).filter (redoR k (lastTurn (sortD (seconds L))))).getLast? with
  | none => rfl
  | some b =>
    obtain ⟨hb, hrb⟩ := List.mem_filter.mp (List.mem_of_getLast? hq)
    dsimp only [redoAns]
    have hany : ((sortD (seconds L)).any fun d => ownMove k d && b.stamp.before d.stamp) = ((h.own k).any fun d => b.stamp.before d.stamp) := by
      unfold House.own
      rw [e, List.any_filter]
      rfl
    rw [hany]
    cases hc : ((h.own k).any fun d => b.stamp.before d.stamp) with
    | true => simp
    | false =>
      simp only [if_false, Bool.false_eq_true]
      cases ho : b.of_ with
      | none => unfold redoR at hrb; rw [ho] at hrb; cases hrb
      | some j =>
        unfold redoR at hrb
        rw [ho] at hrb
        dsimp only at hrb
        rw [Bool.and_eq_true] at hrb
        obtain ⟨d, hd, hdj, hdo⟩ := ht b ((hmem b).mp hb) (by simpa using hrb.1) j ho
        have hdm : d ∈ h.own k := (hown d).mpr ⟨(hmem d).mpr hd, hdo⟩
        cases hf : (h.own k).find? fun d => some j == some d.id with
        | none =>
          have := List.find?_eq_none.mp hf d hdm
          rw [hdj] at this
          simp at this
        | some d' =>
          have := List.find?_some hf
          have : j = d'.id := by simpa using this
          rw [this]
          rfl
end Hb
end

section
set_option Elab.async false
set_option linter.all false
set_option maxRecDepth 10000
namespace Hb
open Sq31 (Deed Act House)

/-- the house as the program keeps it: all deeds, and of each desk the numbers of the deeds that it knows, in the order in which it came to know them -/
structure S where
  done : List Deed
  known : List (List Nat)
def S.ks (s : S) (k : Nat) : List Nat := (s.known[k]?).getD []
def pick (done : List Deed) (l : List Nat) : List Deed := l.filterMap fun i => done[i]?
def S.kd (s : S) (k : Nat) : List Deed := pick s.done (s.ks k)
structure Good (s : S) (h : House) : Prop where
  all : h.all = s.done
  ids : ∀ (i : Nat) (d : Deed), s.done[i]? = some d → d.id = i
  len : h.desks.length = s.known.length
  lt : ∀ k, ∀ i ∈ s.ks k, i < s.done.length
  nodup : ∀ k, (s.ks k).Nodup
  desk : ∀ k, h.desk k = sortD (s.kd k)
  own : ∀ (i : Nat) (d : Deed), s.done[i]? = some d → d.stamp.hand < s.known.length ∧ i ∈ s.ks d.stamp.hand
  dist : ∀ (i j : Nat) (d e : Deed), s.done[i]? = some d → s.done[j]? = some e → d.stamp = e.stamp → i = j
  turn : ∀ (i : Nat) (d : Deed), s.done[i]? = some d → ∀ j, d.of_ = some j → ∃ e, s.done[j]? = some e ∧ ownMove d.stamp.hand e = true

theorem mem_pick {done : List Deed} {l : List Nat} {d : Deed} : d ∈ pick done l ↔ ∃ i ∈ l, done[i]? = some d := by
  unfold pick
  rw [List.mem_filterMap]
/-- all differ by stamps -/
theorem ds_pick {done : List Deed} (dist : ∀ (i j : Nat) (d e : Deed), done[i]? = some d → done[j]? = some e → d.stamp = e.stamp → i = j) : ∀ {l : List Nat}, l.Nodup → DS (pick done l)
  | [], _ => List.Pairwise.nil
  | i :: l, h => by
    obtain ⟨h1, h2⟩ := (List.nodup_cons.mp h)
    unfold pick
    rw [List.filterMap_cons]
    cases q : done[i]? with
    | none => exact ds_pick dist h2
    | some d =>
      refine List.pairwise_cons.mpr ⟨fun e he z => ?_, ds_pick dist h2⟩
      obtain ⟨j, hj, hje⟩ := mem_pick.mp he
      exact h1 (by rw [dist i j d e q hje z]; exact hj)
theorem pick_perm {done : List Deed} {l m : List Nat} (p : l.Perm m) : (pick done l).Perm (pick done m) := p.filterMap _
theorem nodup_perm : ∀ {l m : List Nat}, l.Nodup → m.Nodup → (∀ x, x ∈ l ↔ x ∈ m) → l.Perm m
  | [], m, _, _, h => by
    cases m with
    | nil => exact List.Perm.refl _
    | cons x m => exact absurd ((h x).mpr List.mem_cons_self) List.not_mem_nil
  | x :: l, m, h1, h2, h => by
    obtain ⟨a1, a2⟩ := List.nodup_cons.mp h1
    have hx : x ∈ m := (h x).mp List.mem_cons_self
    have := nodup_perm (l := l) (m := m.erase x) a2 (h2.erase x) fun y => by
      rw [h2.mem_erase_iff]
      constructor
      · intro hy
        exact ⟨fun z => a1 (by rw [← z]; exact hy), (h y).mp (List.mem_cons_of_mem _ hy)⟩
      · rintro ⟨z1, z2⟩
        rcases List.mem_cons.mp ((h y).mpr z2) with z | z
        · exact absurd z z1
        · exact z
    exact (this.cons x).trans (List.perm_cons_erase hx).symm
theorem pick_append (done : List Deed) (l m : List Nat) : pick done (l ++ m) = pick done l ++ pick done m := List.filterMap_append
theorem pick_one {done : List Deed} {i : Nat} {d : Deed} (h : done[i]? = some d) : pick done [i] = [d] := by
  unfold pick
  rw [List.filterMap_cons, h]
  rfl
theorem pick_grow {done more : List Deed} {l : List Nat} (h : ∀ i ∈ l, i < done.length) : pick (done ++ more) l = pick done l := by
  unfold pick
  induction l with
  | nil => rfl
  | cons i l ih =>
    rw [List.filterMap_cons, List.filterMap_cons, List.getElem?_append_left (h i List.mem_cons_self), ih fun j hj => h j (List.mem_cons_of_mem _ hj)]

section
variable {s : S} {h : House}
theorem Good.ds (g : Good s h) (k : Nat) : DS (s.kd k) := ds_pick g.dist (g.nodup k)
theorem Good.ss (g : Good s h) (k : Nat) : SS (sortD (s.kd k)) := ss_sort (g.ds k)
theorem Good.get (g : Good s h) {k i : Nat} (hi : i ∈ s.ks k) : ∃ d, s.done[i]? = some d ∧ d ∈ s.kd k := by
  have := g.lt k i hi
  exact ⟨s.done[i], List.getElem?_eq_getElem this, mem_pick.mpr ⟨i, hi, List.getElem?_eq_getElem this⟩⟩
theorem Good.of_mem (g : Good s h) {k : Nat} {d : Deed} (hd : d ∈ s.kd k) : d.id ∈ s.ks k ∧ s.done[d.id]? = some d := by
  obtain ⟨i, hi, e⟩ := mem_pick.mp hd
  have := g.ids i d e
  subst this
  exact ⟨hi, e⟩
theorem Good.hid (g : Good s h) (k : Nat) : ∀ d ∈ s.kd k, ∀ d' ∈ s.kd k, d.id = d'.id → d = d' := fun d hd d' hd' e => by
  have h1 := (g.of_mem hd).2
  have h2 := (g.of_mem hd').2
  rw [e, h2] at h1
  exact ((Option.some.inj h1).symm)
theorem Good.ht (g : Good s h) (k : Nat) : ∀ b ∈ s.kd k, b.stamp.hand = k → ∀ j, b.of_ = some j → ∃ d ∈ s.kd k, d.id = j ∧ ownMove k d = true := fun b hb hk j hj => by
  obtain ⟨_, h2⟩ := g.of_mem hb
  obtain ⟨e, he, ho⟩ := g.turn _ b h2 j hj
  rw [hk] at ho
  have hh : e.stamp.hand = k := by
    unfold ownMove at ho
    rw [Bool.and_eq_true] at ho
    simpa using ho.2
  have := (g.own j e he).2
  rw [hh] at this
  exact ⟨e, mem_pick.mpr ⟨j, this, he⟩, g.ids j e he, ho⟩
theorem Good.mem_own (g : Good s h) {k : Nat} {d : Deed} : d ∈ h.own k ↔ s.done[d.id]? = some d ∧ ownMove k d = true := by
  unfold House.own
  rw [g.desk, List.mem_filter, (perm_sort _).mem_iff]
  constructor
  · rintro ⟨h1, h2⟩
    exact ⟨(g.of_mem h1).2, h2⟩
  · rintro ⟨h1, h2⟩
    refine ⟨mem_pick.mpr ⟨d.id, ?_, h1⟩, h2⟩
    have := (g.own _ d h1).2
    unfold ownMove at h2
    rw [Bool.and_eq_true] at h2
    rw [show d.stamp.hand = k by simpa using h2.2] at this
    exact this
/-- a move of the desk's own -/
theorem Good.mine (g : Good s h) (k i : Nat) : h.mine k i = (s.done[i]?).filter (ownMove k) := by
  unfold House.mine
  cases q : s.done[i]? with
  | none =>
    rw [Option.filter_none, List.find?_eq_none]
    intro d hd z
    have := (g.mem_own.mp hd).1
    rw [show d.id = i by simpa using z, q] at this
    cases this
  | some d =>
    have hi := g.ids i d q
    cases ho : ownMove k d with
    | false =>
      rw [Option.filter_some_neg (by rw [ho]), List.find?_eq_none]
      intro e he z
      obtain ⟨h1, h2⟩ := g.mem_own.mp he
      rw [show e.id = i by simpa using z, q] at h1
      cases h1
      rw [ho] at h2
      cases h2
    | true =>
      rw [Option.filter_some_pos ho]
      cases hf : (h.own k).find? fun d => d.id == i with
      | none =>
        have := List.find?_eq_none.mp hf d (g.mem_own.mpr ⟨by rw [hi]; exact q, ho⟩)
        rw [hi] at this
        simp at this
      | some e =>
        have h1 := List.find?_some hf
        have h2 := (g.mem_own.mp (List.mem_of_find?_eq_some hf)).1
        rw [show e.id = i by simpa using h1, q] at h2
        exact h2.symm
theorem max_perm {l m : List Deed} (p : l.Perm m) : maxCount l = maxCount m := by
  obtain ⟨_, a2, a3⟩ := maxCount_ge l 0
  obtain ⟨_, b2, b3⟩ := maxCount_ge m 0
  unfold maxCount
  refine Nat.le_antisymm ?_ ?_
  · rcases a3 with a3 | ⟨d, hd, a3⟩
    · omega
    · have := b2 d (p.mem_iff.mp hd)
      omega
  · rcases b3 with b3 | ⟨d, hd, b3⟩
    · omega
    · have := a2 d (p.mem_iff.mpr hd)
      omega
theorem Good.next (g : Good s h) (k : Nat) : h.next k = maxCount (s.kd k) + 1 := by
  unfold House.next
  rw [g.desk]
  exact congrArg (· + 1) (max_perm (perm_sort (s.kd k)))
theorem ks_set (s : S) (k : Nat) (l : List Nat) (hk : k < s.known.length) (done : List Deed) (j : Nat) : (S.mk done (s.known.set k l)).ks j = if j = k then l else s.ks j := by
  unfold S.ks
  show ((s.known.set k l)[j]?).getD [] = _
  rw [List.getElem?_set]
  by_cases hj : k = j
  · subst hj
    rw [if_pos rfl, if_pos hk, if_pos rfl]
    rfl
  · rw [if_neg hj, if_neg (fun z => hj z.symm)]
theorem desk_set (h : House) (k : Nat) (l : List Deed) (hk : k < h.desks.length) (j : Nat) : (h.set k l).desk j = if j = k then l else h.desk j := by
  unfold House.set House.desk
  show ((h.desks.set k l)[j]?).getD [] = _
  rw [List.getElem?_set]
  by_cases hj : k = j
  · subst hj
    rw [if_pos rfl, if_pos hk, if_pos rfl]
    rfl
  · rw [if_neg hj, if_neg (fun z => hj z.symm)]

/-- what a desk does -/
def newDeed (s : S) (k : Nat) (a : Act) : Deed := ⟨s.done.length, ⟨maxCount (s.kd k) + 1, k⟩, a⟩
def S.does (s : S) (k : Nat) (a : Act) : S := ⟨s.done ++ [newDeed s k a], s.known.set k (s.ks k ++ [s.done.length])⟩
theorem Good.does (g : Good s h) {k : Nat} (hk : k < s.known.length) {a : Act} (ht : ∀ j, (newDeed s k a).of_ = some j → ∃ e, s.done[j]? = some e ∧ ownMove k e = true) : Good (s.does k a) (h.does k a) := by
  have hd : (⟨h.all.length, ⟨h.next k, k⟩, a⟩ : Deed) = newDeed s k a := by rw [g.all, g.next]; rfl
  have hlt : ∀ d ∈ s.kd k, d.stamp.count < (newDeed s k a).stamp.count := fun d hd => Nat.lt_succ_of_le ((maxCount_ge (s.kd k) 0).2.1 d hd)
  have hat : (s.done ++ [newDeed s k a])[s.done.length]? = some (newDeed s k a) := by simp
  have hold : ∀ {i : Nat} {d : Deed}, (s.done ++ [newDeed s k a])[i]? = some d → (s.done[i]? = some d ∧ i < s.done.length) ∨ (i = s.done.length ∧ d = newDeed s k a) := fun {i d} q => by
    by_cases hi : i < s.done.length
    · rw [List.getElem?_append_left hi] at q
      exact .inl ⟨q, hi⟩
    · rw [List.getElem?_append_right (Nat.not_lt.mp hi)] at q
      have : i - s.done.length = 0 := by
        have := (List.getElem?_eq_some_iff.mp q).1
        simp at this
        omega
      rw [this] at q
      exact .inr ⟨by omega, (Option.some.inj q).symm⟩
  have hks : ∀ j, (s.does k a).ks j = if j = k then s.ks k ++ [s.done.length] else s.ks j := ks_set s k _ hk _
  have hkd : ∀ j, (s.does k a).kd j = if j = k then s.kd k ++ [newDeed s k a] else s.kd j := fun j => by
    unfold S.kd
    rw [hks]
    by_cases hj : j = k
    · rw [if_pos hj, if_pos hj, pick_append]
      show pick (s.done ++ [newDeed s k a]) (s.ks k) ++ pick (s.done ++ [newDeed s k a]) [s.done.length] = _
      rw [pick_grow (g.lt k), pick_one hat]
    · rw [if_neg hj, if_neg hj]
      exact pick_grow (g.lt j)
  have nin : s.done.length ∉ s.ks k := fun z => Nat.lt_irrefl _ (g.lt k _ z)
  refine ⟨?_, fun i d q => ?_, ?_, fun j i hi => ?_, fun j => ?_, fun j => ?_, fun i d q => ?_, fun i j d e q1 q2 z => ?_, fun i d q j hj => ?_⟩
  · show h.all ++ [_] = s.done ++ [newDeed s k a]
    rw [hd, g.all]
  · rcases hold q with ⟨q, _⟩ | ⟨rfl, rfl⟩
    · exact g.ids i d q
    · rfl
  · show (h.desks.set k _).length = (s.known.set k _).length
    rw [List.length_set, List.length_set]
    exact g.len
  · rw [hks] at hi
    show i < (s.done ++ [newDeed s k a]).length
    rw [List.length_append]
    split at hi
    · rcases List.mem_append.mp hi with hi | hi
      · exact Nat.lt_succ_of_lt (g.lt k i hi)
      · rw [List.mem_singleton.mp hi]
        exact Nat.lt_succ_self _
    · exact Nat.lt_succ_of_lt (g.lt j i hi)
  · rw [hks]
    split
    · rw [List.nodup_append]
      refine ⟨g.nodup k, by simp, fun x hx y hy z => ?_⟩
      rw [List.mem_singleton.mp hy] at z
      exact nin (by rw [← z]; exact hx)
    · exact g.nodup j
  · rw [hkd]
    unfold House.does
    dsimp only
    rw [hd]
    rw [desk_set _ k _ (by show k < h.desks.length; rw [g.len]; exact hk)]
    split
    · rw [show House.desk h k = sortD (s.kd k) from g.desk k]
      exact learn_sort (g.ds k) fun e he z => by
        have := hlt e he
        rw [z] at this
        exact Nat.lt_irrefl _ this
    · exact g.desk j
  · show d.stamp.hand < (s.known.set k _).length ∧ _
    rw [List.length_set, hks]
    rcases hold q with ⟨q, hi⟩ | ⟨rfl, rfl⟩
    · obtain ⟨h1, h2⟩ := g.own i d q
      refine ⟨h1, ?_⟩
      split
      · rename_i hk2
        rw [hk2] at h2
        exact List.mem_append_left _ h2
      · exact h2
    · refine ⟨hk, ?_⟩
      rw [if_pos (show (newDeed s k a).stamp.hand = k from rfl)]
      exact List.mem_append_right _ (List.mem_singleton.mpr rfl)
  · have key : ∀ (i : Nat) (d : Deed), s.done[i]? = some d → d.stamp ≠ (newDeed s k a).stamp := fun i d q z => by
      have h1 := (g.own i d q).2
      have hh : d.stamp.hand = k := by rw [z]; rfl
      rw [hh] at h1
      have := hlt d (mem_pick.mpr ⟨i, h1, q⟩)
      rw [z] at this
      exact Nat.lt_irrefl _ this
    rcases hold q1 with ⟨q1, _⟩ | ⟨rfl, rfl⟩
    · rcases hold q2 with ⟨q2, _⟩ | ⟨rfl, rfl⟩
      · exact g.dist i j d e q1 q2 z
      · exact absurd z (key i d q1)
    · rcases hold q2 with ⟨q2, _⟩ | ⟨rfl, rfl⟩
      · exact absurd z.symm (key j e q2)
      · rfl
  · have up : ∀ {j : Nat} {e : Deed}, s.done[j]? = some e → (s.done ++ [newDeed s k a])[j]? = some e := fun {j e} q => by
      rw [List.getElem?_append_left (List.getElem?_eq_some_iff.mp q).1]
      exact q
    rcases hold q with ⟨q, _⟩ | ⟨rfl, rfl⟩
    · obtain ⟨e, h1, h2⟩ := g.turn i d q j hj
      exact ⟨e, up h1, h2⟩
    · obtain ⟨e, h1, h2⟩ := ht j hj
      exact ⟨e, up h1, h2⟩
/-- a desk's knowledge is put anew -/
theorem Good.learned (g : Good s h) {k : Nat} (hk : k < s.known.length) {l : List Nat} {m : List Deed} (hl : ∀ i ∈ l, i < s.done.length) (hn : l.Nodup) (hs : ∀ i ∈ s.ks k, i ∈ l) (hm : m = sortD (pick s.done l)) : Good ⟨s.done, s.known.set k l⟩ (h.set k m) := by
  have hks : ∀ j, (S.mk s.done (s.known.set k l)).ks j = if j = k then l else s.ks j := ks_set s k _ hk _
  refine ⟨g.all, g.ids, ?_, fun j i hi => ?_, fun j => ?_, fun j => ?_, fun i d q => ?_, g.dist, g.turn⟩
  · show (h.desks.set k _).length = (s.known.set k _).length
    rw [List.length_set, List.length_set]
    exact g.len
  · rw [hks] at hi
    split at hi
    · exact hl i hi
    · exact g.lt j i hi
  · rw [hks]
    split
    · exact hn
    · exact g.nodup j
  · rw [desk_set _ k _ (by rw [g.len]; exact hk)]
    unfold S.kd
    rw [hks]
    split
    · exact hm
    · exact g.desk j
  · show d.stamp.hand < (s.known.set k _).length ∧ _
    rw [List.length_set, hks]
    obtain ⟨h1, h2⟩ := g.own i d q
    refine ⟨h1, ?_⟩
    split
    · rename_i z
      rw [z] at h2
      exact hs i h2
    · exact h2
theorem Good.begin_ (n : Nat) : Good ⟨[], List.replicate n []⟩ ⟨[], List.replicate n []⟩ := by
  have hks : ∀ k, (S.mk [] (List.replicate n [])).ks k = [] := fun k => by
    unfold S.ks
    show ((List.replicate n ([] : List Nat))[k]?).getD [] = []
    rw [List.getElem?_replicate]
    split <;> rfl
  have no : ∀ (i : Nat) (d : Deed), ¬ (([] : List Deed)[i]? = some d) := fun i d q => by simp at q
  refine ⟨rfl, fun i d q => absurd q (no i d), ?_, fun k i hi => ?_, fun k => ?_, fun k => ?_, fun i d q => absurd q (no i d), fun i j d e q => absurd q (no i d), fun i d q => absurd q (no i d)⟩
  · simp
  · rw [hks] at hi
    cases hi
  · rw [hks]
    exact List.nodup_nil
  · unfold S.kd
    rw [hks]
    have e : sortD (pick ([] : List Deed) []) = [] := by unfold sortD pick; exact List.mergeSort_nil
    show ((List.replicate n ([] : List Deed))[k]?).getD [] = sortD (pick ([] : List Deed) [])
    rw [e, List.getElem?_replicate]
    split <;> rfl
/-- tell -/
theorem learn_pick (g : Good s h) (k : Nat) {i : Nat} {d : Deed} (hi : s.done[i]? = some d) : Sq31.learn d (h.desk k) = sortD (pick s.done (if i ∈ s.ks k then s.ks k else s.ks k ++ [i])) := by
  rw [g.desk]
  split
  · rename_i hin
    exact learn_sort_in (g.ds k) (mem_pick.mpr ⟨i, hin, hi⟩)
  · rename_i hin
    rw [pick_append, pick_one hi]
    refine learn_sort (g.ds k) fun e he z => hin ?_
    obtain ⟨j, hj, hje⟩ := mem_pick.mp he
    rw [g.dist i j d e hi hje z]
    exact hj
end
end Hb
end

section
set_option Elab.async false
set_option linter.all false
set_option maxRecDepth 10000
namespace Hb
open Sq31 (Deed Act House)
section
variable {s : S} {h : House}
/-! ### meet -/
theorem fold_learn (g : Good s h) : ∀ (ds : List Deed) (a : List Nat), a.Nodup → (∀ d ∈ ds, s.done[d.id]? = some d) → ∃ b : List Nat, b.Nodup ∧ (∀ i, i ∈ b ↔ i ∈ a ∨ i ∈ ds.map Deed.id) ∧ ds.foldl (fun (m : List Deed) d => Sq31.learn d m) (sortD (pick s.done a)) = sortD (pick s.done b)
  | [], a, ha, _ => ⟨a, ha, fun i => by simp, rfl⟩
  | d :: ds, a, ha, hd => by
    have h1 := hd d List.mem_cons_self
    have hds := ds_pick g.dist ha
    by_cases hin : d.id ∈ a
    · obtain ⟨b, b1, b2, b3⟩ := fold_learn g ds a ha fun e he => hd e (List.mem_cons_of_mem _ he)
      refine ⟨b, b1, fun i => ?_, ?_⟩
      · rw [b2, List.map_cons, List.mem_cons]
        constructor
        · rintro (z | z)
          · exact .inl z
          · exact .inr (.inr z)
        · rintro (z | z | z)
          · exact .inl z
          · exact .inl (by rw [z]; exact hin)
          · exact .inr z
      · rw [List.foldl_cons, learn_sort_in hds (mem_pick.mpr ⟨_, hin, h1⟩)]
        exact b3
    · have hn : (a ++ [d.id]).Nodup := by
        rw [List.nodup_append]
        refine ⟨ha, by simp, fun x hx y hy z => hin ?_⟩
        rw [← List.mem_singleton.mp hy, ← z]
        exact hx
      obtain ⟨b, b1, b2, b3⟩ := fold_learn g ds (a ++ [d.id]) hn fun e he => hd e (List.mem_cons_of_mem _ he)
      refine ⟨b, b1, fun i => ?_, ?_⟩
      · rw [b2, List.map_cons, List.mem_cons, List.mem_append, List.mem_singleton, or_assoc]
      · rw [List.foldl_cons, learn_sort hds, ← pick_one h1, ← pick_append]
        · exact b3
        · intro e he z
          obtain ⟨j, hj, hje⟩ := mem_pick.mp he
          exact hin (by rw [g.dist _ j d e h1 hje z]; exact hj)
theorem mem_ids (g : Good s h) (k i : Nat) : i ∈ (h.desk k).map Deed.id ↔ i ∈ s.ks k := by
  rw [g.desk, List.mem_map]
  constructor
  · rintro ⟨d, hd, rfl⟩
    exact (g.of_mem ((perm_sort _).mem_iff.mp hd)).1
  · intro hi
    obtain ⟨d, h1, h2⟩ := g.get hi
    exact ⟨d, (perm_sort _).mem_iff.mpr h2, g.ids i d h1⟩
theorem meet_is (g : Good s h) (k j : Nat) {l : List Nat} (hn : l.Nodup) (hm : ∀ i, i ∈ l ↔ i ∈ s.ks k ∨ i ∈ s.ks j) : (h.desk j).foldl (fun (m : List Deed) d => Sq31.learn d m) (h.desk k) = sortD (pick s.done l) := by
  obtain ⟨b, b1, b2, b3⟩ := fold_learn g (h.desk j) (s.ks k) (g.nodup k) fun d hd => by
    rw [g.desk] at hd
    exact (g.of_mem ((perm_sort _).mem_iff.mp hd)).2
  have e : h.desk k = sortD (pick s.done (s.ks k)) := g.desk k
  rw [e, b3]
  refine sort_congr (ds_pick g.dist b1) (pick_perm (nodup_perm b1 hn fun i => ?_))
  rw [b2, hm, mem_ids g]
/-! ### same -/
theorem desk_eq (g : Good s h) (k j : Nat) : h.desk k = h.desk j ↔ ∀ i, i ∈ s.ks k ↔ i ∈ s.ks j := by
  constructor
  · intro e i
    rw [← mem_ids g, ← mem_ids g, e]
  · intro e
    rw [g.desk, g.desk]
    exact sort_congr (g.ds k) (pick_perm (nodup_perm (g.nodup k) (g.nodup j) e))
theorem pick_len {done : List Deed} : ∀ {l : List Nat}, (∀ i ∈ l, i < done.length) → (pick done l).length = l.length
  | [], _ => rfl
  | i :: l, hl => by
    unfold pick
    rw [List.filterMap_cons, List.getElem?_eq_getElem (hl i List.mem_cons_self)]
    show (pick done l).length + 1 = _
    rw [pick_len fun j hj => hl j (List.mem_cons_of_mem _ hj)]
    rfl
theorem desk_len (g : Good s h) (k : Nat) : (h.desk k).length = (s.ks k).length := by
  rw [g.desk, (perm_sort _).length_eq]
  exact pick_len (g.lt k)
theorem rises_unique : ∀ {t u : Sq28.Tree}, Rises t → Rises u → (∀ p, p ∈ t ↔ p ∈ u) → t = u
  | [], u, _, _, e => by
    cases u with
    | nil => rfl
    | cons p u => exact absurd ((e p).mpr List.mem_cons_self) List.not_mem_nil
  | p :: t, [], _, _, e => absurd ((e p).mp List.mem_cons_self) List.not_mem_nil
  | p :: t, q :: u, h1, h2, e => by
    obtain ⟨a1, a2⟩ := List.pairwise_cons.mp h1
    obtain ⟨b1, b2⟩ := List.pairwise_cons.mp h2
    have epq : p = q := by
      rcases List.mem_cons.mp ((e p).mp List.mem_cons_self) with z | z
      · exact z
      · rcases List.mem_cons.mp ((e q).mpr List.mem_cons_self) with y | y
        · exact y.symm
        · have := a1 q y
          have := b1 p z
          omega
    subst epq
    rw [rises_unique a2 b2 fun x => ?_]
    constructor
    · intro hx
      rcases List.mem_cons.mp ((e x).mp (List.mem_cons_of_mem _ hx)) with z | z
      · have := a1 x hx
        rw [z] at this
        omega
      · exact z
    · intro hx
      rcases List.mem_cons.mp ((e x).mpr (List.mem_cons_of_mem _ hx)) with z | z
      · have := b1 x hx
        rw [z] at this
        omega
      · exact z
theorem place_mem {t : Sq28.Tree} (r : Rises t) (p : Sq28.Place) : p ∈ t ↔ Sq31.place t p.thing = some (p.under, p.label) := by
  unfold Sq31.place
  constructor
  · intro h
    rw [get_of r h]
    rfl
  · intro h
    cases q : Sq28.get t p.thing with
    | none => rw [q] at h; cases h
    | some v =>
      rw [q] at h
      obtain ⟨h1, h2⟩ := get_mem q
      have h3 := Option.some.inj h
      have : v = p := by
        obtain ⟨a, b, c⟩ := v
        obtain ⟨a', b', c'⟩ := p
        simp only [Prod.mk.injEq] at h3
        simp only at h2
        rw [h2, h3.1, h3.2]
      rw [← this]
      exact h1
theorem tree_ext {t u : Sq28.Tree} (h1 : Rises t) (h2 : Rises u) : t = u ↔ ∀ n, Sq31.place t n = Sq31.place u n := by
  constructor
  · intro e n
    rw [e]
  · intro e
    exact rises_unique h1 h2 fun p => by rw [place_mem h1, place_mem h2, e]
/-! ### fates -/
def fateFold (hd : Deed → Bool) : Sq28.Tree → List Deed → List (Nat × Nat)
  | _, [] => []
  | t, d :: l => match d.moved with
    | none => fateFold hd t l
    | some m => if hd d = true then (d.id, Sq28.outcome t m) :: fateFold hd (Sq28.done t m) l else (d.id, 0) :: fateFold hd t l
theorem moved_id {d : Deed} {m : Sq28.Deed} (h : d.moved = some m) : m.id = d.id ∧ d.isMove = true := by
  obtain ⟨id, st, act⟩ := d
  cases act with
  | move x u v => cases h; exact ⟨rfl, rfl⟩
  | back i => cases h
  | again i => cases h
theorem moved_none {d : Deed} (h : d.moved = none) : d.isMove = false := by
  obtain ⟨id, st, act⟩ := d
  cases act with
  | move x u v => cases h
  | back i => rfl
  | again i => rfl
theorem outcomes_ids : ∀ (l : List Sq28.Deed) (t : Sq28.Tree) (i : Nat), (∀ d ∈ l, d.id ≠ i) → (Sq28.outcomes t l).find? (fun x => x.1.id == i) = none
  | [], _, _, _ => rfl
  | d :: l, t, i, h => by
    unfold Sq28.outcomes
    rw [List.find?_cons]
    have : (d.id == i) = false := by simpa using h d List.mem_cons_self
    show (match (d.id == i) with | true => _ | false => _) = _
    rw [this]
    exact outcomes_ids l _ i fun e he => h e (List.mem_cons_of_mem _ he)
theorem fate_fold (hd : Deed → Bool) : ∀ (l : List Deed) (t : Sq28.Tree), (l.map Deed.id).Nodup →
    fateFold hd t l = (l.filter Deed.isMove).map fun d => (d.id, (((Sq28.outcomes t ((l.filter fun d => d.isMove && hd d).filterMap Deed.moved)).find? fun x => x.1.id == d.id).map fun x => x.2).getD 0)
  | [], _, _ => rfl
  | d :: l, t, hn => by
    obtain ⟨n1, n2⟩ := List.nodup_cons.mp hn
    have hne : ∀ e ∈ l, (d.id == e.id) = false := fun e he => by
      simp
      exact fun z => n1 (List.mem_map.mpr ⟨e, he, z.symm⟩)
    unfold fateFold
    cases hm : d.moved with
    | none =>
      have := moved_none hm
      rw [List.filter_cons, this, List.filter_cons, this]
      simp only [if_false, Bool.false_eq_true, Bool.false_and]
      exact fate_fold hd l t n2
    | some m =>
      obtain ⟨e1, e2⟩ := moved_id hm
      rw [List.filter_cons, e2, List.filter_cons, e2]
      cases hh : hd d with
      | false =>
        simp only [Bool.and_false, Bool.false_eq_true, if_false, if_true, List.map_cons]
        rw [outcomes_ids, fate_fold hd l t n2]
        · rfl
        · intro x hx z
          obtain ⟨y, hy, hyx⟩ := List.mem_filterMap.mp hx
          have h3 := hne y (List.mem_filter.mp hy).1
          rw [← (moved_id hyx).1, z] at h3
          simp at h3
      | true =>
        simp only [Bool.and_true, if_true, List.map_cons, List.filterMap_cons, hm]
        unfold Sq28.outcomes
        rw [fate_fold hd l _ n2]
        congr 1
        · rw [List.find?_cons]
          show _ = (d.id, ((match (m.id == d.id) with | true => some (m, Sq28.outcome t m) | false => _).map _).getD 0)
          rw [show (m.id == d.id) = true by rw [e1]; simp]
          rfl
        · refine List.map_congr_left fun e he => ?_
          rw [List.find?_cons]
          show _ = (e.id, ((match (m.id == e.id) with | true => some (m, Sq28.outcome t m) | false => _).map _).getD 0)
          rw [e1, hne e (List.mem_filter.mp he).1]
theorem fates_is {l : List Deed} (hn : (l.map Deed.id).Nodup) : Sq31.fates l = fateFold (fun d => heldIn l d.id) [] l := by
  rw [fate_fold _ l [] hn]
  unfold Sq31.fates
  rw [live_is]
theorem ids_nodup (g : Good s h) (k : Nat) : ((h.desk k).map Deed.id).Nodup := by
  have e : (s.kd k).map Deed.id = s.ks k := by
    unfold S.kd
    have := g.lt k
    generalize s.ks k = l at this
    induction l with
    | nil => rfl
    | cons i l ih =>
      unfold pick
      rw [List.filterMap_cons, List.getElem?_eq_getElem (this i List.mem_cons_self)]
      show _ :: (pick s.done l).map Deed.id = _
      rw [ih fun j hj => this j (List.mem_cons_of_mem _ hj), g.ids i _ (List.getElem?_eq_getElem (this i List.mem_cons_self))]
  rw [g.desk]
  refine ((perm_sort (s.kd k)).map Deed.id).nodup_iff.mpr ?_
  rw [e]
  exact g.nodup k
/-! ### would -/
theorem would_is (L : List Row) (i : Nat) : movedL ((heldL L).filter fun r => r.2.id != i) = (Sq31.live (sortD (seconds L))).filter fun e => e.id != i := by
  rw [← held_live]
  unfold movedL
  rw [filter_seconds (heldL L) (fun d => d.id != i)]
  generalize seconds (heldL L) = l
  induction l with
  | nil => rfl
  | cons d l ih =>
    rw [List.filter_cons, List.filterMap_cons]
    cases hm : d.moved with
    | none =>
      split
      · rw [List.filterMap_cons, hm]
        exact ih
      · exact ih
    | some m =>
      have e := (moved_id hm).1
      dsimp only
      rw [List.filter_cons, e]
      split
      · rw [List.filterMap_cons, hm]
        dsimp only
        rw [ih]
      · exact ih
end
end Hb
end

section
set_option Elab.async false
set_option linter.all false
set_option maxRecDepth 100000
set_option maxHeartbeats 2500000
namespace Hb
open L2 PySem PySem.Spec PyProof.Rows
section
variable {X : Cx}

/-! ### xs.extend(t), t a tuple -/
theorem extend_tuple (l : Addr) (items : Array Value) (n : Nat) (b : Addr) (items2 : Array Value) (h0 : ¬(!items.isEmpty && Builtin.List.listTooLong (items.size + items2.size)) = true) (h1 : items.size ≤ sizeLine) (h2 : items.size + items2.size ≤ sizeLine + 1) :
    Meets (Builtin.«list.extend» ⟨[.ref l, .ref b], []⟩) (fun _ R s => s.heap.get? l = some { cls := .type "list", dict := none, data := .seq items n, slots := #[] } ∧ IsTup s.heap b items2 ∧ R (.ok (.ret Value.none)) { s with heap := s.heap.update l (Obj.mapSeq fun x => x ++ items2), toks := s.toks }) :=
  Meets.of_wp fun prog w A R s h => by
    obtain ⟨heap, gens, drawn, toks, world⟩ := s
    obtain ⟨hl, ⟨o, hb, oc, n2, od⟩, h⟩ := h
    obtain ⟨c1, c2, c3, c4⟩ := o
    dsimp only at oc od
    subst oc
    subst od
    have ofInt := AutoSeq1.idx_int
    have tupTup := AutoSeq1.sub_tuple_tuple
    have lstLst := AutoSeq1.sub_list_list
    have tupLst := AutoSeq1.sub_tuple_list
    have lstTup := AutoSeq1.sub_list_tuple
    have hz' : (items ++ items2).size ≤ sizeLine + 1 := by rw [Array.size_append]; exact h2
    wp_walk using (wpAny_updateSeq hl rfl (hz := h1) (_hz' := hz')), AutoSeq1.wpAny_loadPart' hl, AutoSeq1.wpAny_loadPart' hb
    exact ⟨_, rfl, h⟩
def rExtT (K : PySem.W.Frag) : V → List V → Hp → VK → Prop := fun x vs H Q => ∃ l b xs zs, x = .ref l ∧ vs = [.ref b] ∧ H l = some (.lst xs) ∧ SqT K H b zs ∧ xs.length + zs.length ≤ sizeLine ∧ Q .non (upd H l (.lst (xs ++ zs)))
theorem mt_extendT : MtM X "list.extend" (rExtT X.K) := by
  intro pins sh st G recv args rv us Q inv rel rels want
  obtain ⟨li, tu, xs, zs, rfl, rfl, atL, atT, fits, go⟩ := want
  cases rel
  obtain ⟨one, rfl, rel1⟩ := rels.one
  cases rel1
  obtain ⟨_, us1, n1, valsL, lenL, inHeap⟩ := inv.lstM atL
  obtain ⟨us2, valsT, isT, _⟩ := inv.tuple atT
  have lenT := valsT.length
  have both : us1.toArray.size + us2.toArray.size ≤ sizeLine := by simp only [List.size_toArray]; omega
  have short : ¬ (!us1.toArray.isEmpty && Builtin.List.listTooLong (us1.toArray.size + us2.toArray.size)) = true := fun bad => by
    rw [notLongL both] at bad
    simp at bad
  have runs := extend_tuple li us1.toArray n1 tu us2.toArray short (by simp only [List.size_toArray]; omega) (by omega)
  refine call_meets F.slot_list_extend ⟨_, inHeap, rfl⟩ F.entry_list_extend (F.args_list_extend_2 _ _) runs ⟨inHeap, isT, ?_⟩
  have fitsAll : (xs ++ zs).length ≤ sizeLine := by rw [List.length_append]; exact fits
  exact ⟨.non, _, inv.lset (its' := us1 ++ us2) atL inHeap (by simp) (valsL.append valsT) fitsAll, rfl, go⟩

/-! ### sorted(d, reverse=True), d a dict whose keys are whole numbers -/
/-- what a walk over such a dict collects: its keys, as ints -/
theorem keys_are {ents : List (Key × Value)} {ks : List Int} (same : ents.map (·.1) = ks.map Sum.inl) {got : Array Value} (size : got.size = ents.length) (each : ∀ (j : Nat) (v : Value), got[j]? = some v → ∃ k x, ents[j]? = some (k, x) ∧ keyIs k v = true) : IntsAre got.toList ks := by
  have len : got.toList.length = ks.length := by
    have both := congrArg List.length same
    simp only [List.length_map] at both
    rw [Array.length_toList, size, both]
  refine ints_each len fun j v at_ => ?_
  rw [Array.getElem?_toList] at at_
  obtain ⟨key, val, here, is_⟩ := each j v at_
  have keyAt : (ks.map (Sum.inl : Int → Key))[j]? = some key := by rw [← same, List.getElem?_map, here]; rfl
  rw [List.getElem?_map] at keyAt
  cases ofKs : ks[j]? with
  | none =>
    rw [ofKs] at keyAt
    cases keyAt
  | some n =>
    rw [ofKs] at keyAt
    have keyIsN : key = Sum.inl n := (Option.some.inj keyAt).symm
    rw [keyIsN] at is_
    rcases keyIs_shape is_ with ⟨m, tok, eqK, eqV⟩ | ⟨txt, tok, eqK, _⟩
    · cases eqK
      exact ⟨n, tok, rfl, eqV⟩
    · cases eqK
def rSortDR : List V → List V → Hp → VK → Prop := fun vs zs H Q => ∃ (a : Addr) (kvs : List (Key × V)) (ks : List Int), vs = [V.ref a] ∧ zs = [.bl true] ∧ Rd H a (.dK kvs) ∧ kvs.map (·.1) = ks.map Sum.inl ∧ ks.length ≤ 1000 ∧
  ∀ (ys : List Int) (p : Addr), ys.Perm ks → ys.Pairwise (· ≥ ·) → H p = none → Q (.ref p) (upd H p (.lst (ys.map V.int)))
theorem cr_sortDR (calm : X.calm = true) : CallRK X (.builtin "sorted") [Str.ofString "reverse"] rSortDR := by
  intro pins sh st G args kws us ws Q inv relA relK want
  obtain ⟨d, kvs, ks, rfl, rfl, atD, keysD, few, go⟩ := want
  obtain rfl := Vals.ref1 relA
  obtain ⟨flag, rfl, relF⟩ := vals1 relK
  cases (show flag = Value.bool true from relF)
  obtain ⟨_, notSys, ents, relE, isDict⟩ := dk_rd inv.hok atD
  obtain ⟨epoch, dictAt⟩ := isDict.dictAt
  have sameKeys : ents.map (·.1) = ks.map Sum.inl := (relE.keys).symm.trans keysD
  have lenE : ents.length = ks.length := by simpa using congrArg List.length sameKeys
  have fewE : ents.length ≤ sizeLine := by
    rw [lenE, sizeLine_eq]
    exact Nat.le_trans few (by decide)
  have shell : argsOk "sorted" ⟨[.ref d], [(Str.ofString "reverse", .bool true)]⟩ := args_sorted_rev _ _
  show wpAny _ _ (call (.builtin "sorted") [.ref d] [(Str.ofString "reverse", .bool true)]) _ _ _
  refine call_function_entry_kw (kind_sorted) (plain_sorted) (entry_sorted) shell ?_
  unfold Builtin.«sorted»
  refine wpAny_bind (m := checkCount "sorted" 1 1 _) <| wpAny_pure ?_
  have walk := PySem.W.kdl_dict (knd := mixKind X.prog X.w) (kvs := ents) (ep := epoch) notSys
  refine wpAny_bind <| PySem.W.kdu_collect (A := X.A.in1) walk (inv.ok.hd calm) dictAt fewE fun hp tk got kept found => ?_
  have allI : IntsAre got.toList ks := keys_are sameKeys found.1 found.2
  have lenG : got.toList.length ≤ sizeLine := by
    rw [Array.length_toList, found.1]
    exact fewE
  have inv1 : Inv X pins st G { sh with heap := hp, toks := tk } := inv.kept kept
  refine wpAny_bind <| wpAny_newList ?_ lenG
  have made : (hp.push (seqObj "list" got.toList.toArray 0)).get? hp.objs.size = some (seqObj "list" got.toList.toArray 0) := Heap.get?_push_size _ rfl
  show wpAny _ _ _ _ _ { sh with heap := hp.push (seqObj "list" got.toList.toArray 0), toks := tk }
  refine wpAny_bind <| wpAny_holding <| wpAny_call_entry_kw slot_list_sort ⟨_, made, rfl⟩ entry_list_sort ?_ (args_list_sort_rev _ _)
  refine SrtR.list_sort_ordR (s := { sh with heap := hp.push (seqObj "list" got.toList.toArray 0), toks := tk }) (b := true) SrtO.swo_int made lenG (fun two => SrtO.ints_sortable allI two) fun out srt stb => ⟨_, rfl, ?_⟩
  obtain ⟨ys, outInts, perm, desc⟩ := SrtR.ints_outR (b := true) allI srt stb
  obtain ⟨ep2, atOut⟩ := sortedHeap_at (vs := got.toList) (out := if true = true then out.toArray.reverse else out.toArray) made
  have lenY : (ys.map V.int).length ≤ sizeLine := by
    rw [List.length_map, perm.length_eq, ← lenE]
    exact fewE
  have obj : ObjOk X.prog X.w (upd G hp.objs.size (.lst (ys.map V.int))) (sortedHeap (hp.push (seqObj "list" got.toList.toArray 0)) hp.objs.size got.toList (if true = true then out.toArray.reverse else out.toArray)) hp.objs.size (.lst (ys.map V.int)) :=
    ⟨lenY, (if true = true then out.toArray.reverse else out.toArray).toList, ep2, vals_of_ints outInts, by rw [Array.toArray_toList]; exact atOut⟩
  refine wpAny_pure ⟨_, rfl, .ref hp.objs.size, upd G hp.objs.size (.lst (ys.map V.int)), inv1.laid (t' := tk) (fun b o at_ => ?_) (Nat.le_refl _) obj, rfl, go ys _ perm desc (inv1.hok.fresh (Nat.le_refl _))⟩
  have old : b < hp.objs.size := Heap.lt_size at_
  rw [sortedHeap_old (Nat.ne_of_lt old) (by rw [size_push']; exact Nat.lt_succ_of_le (Nat.le_of_lt old))]
  exact Heap.get?_push_of_some _ at_

/-! ### a == b, two dicts -/
def hitK (dt : V → PyData) (kb : List (Key × V)) (p : Key × V) : Bool := match valV kb p.1 with
  | none => false
  | some u => PyData.eqv (dt p.2) (dt u)
def rEqK (K : PySem.W.Frag) : R2 := fun x y H Q => ∃ (a b : Addr) (ka kb : List (Key × V)) (dt : V → PyData), x = .ref a ∧ y = .ref b ∧ H a = some (.dK ka) ∧ H b = some (.dK kb) ∧
  (∀ p ∈ ka, Dp K H p.2 (dt p.2) ∧ SeqAt.shaped (dt p.2) = true) ∧ (∀ p ∈ kb, Dp K H p.2 (dt p.2) ∧ SeqAt.shaped (dt p.2) = true) ∧ Q (.bl (ka.length == kb.length && ka.all (hitK dt kb))) H
theorem valV_mem {kvs : List (Key × V)} {k : Key} {u : V} (h : valV kvs k = some u) : ∃ p ∈ kvs, p.1 = k ∧ p.2 = u := by
  unfold valV at h
  cases q : kvs.find? fun kv => decide (kv.1 = k) with
  | none => rw [q] at h; cases h
  | some p =>
    rw [q] at h
    exact ⟨p, List.mem_of_find?_eq_some q, by simpa using List.find?_some q, Option.some.inj h⟩
theorem hits_all {P : Program} {w : World} {A : Around} {s : Shared} {dt : V → PyData} {kb : List (Key × V)} {vb : List (Key × Value)} (rb : KV kb vb) {ka : List (Key × V)} {va : List (Key × Value)} (ra : KV ka va)
    (he : ∀ p ∈ ka, ∀ u, valV kb p.1 = some u → ∀ v y, RelV p.2 v → RelV u y → SeqAt.EqP P w A s v y (PyData.eqv (dt p.2) (dt u))) : PySem.W.KeqHitsP P w A s vb va (ka.all (hitK dt kb)) := by
  unfold KV at ra
  induction ra with
  | nil => exact .nil
  | @cons p q ps qs h t ih =>
    obtain ⟨h1, h2⟩ := h
    obtain ⟨key, v⟩ := q
    have h1' : p.1 = key := h1
    have rr := rb.val p.1
    rw [List.all_cons]
    have rest := ih fun p' hm => he p' (List.mem_cons_of_mem _ hm)
    cases e : valV kb p.1 with
    | none =>
      rw [e] at rr
      have hv : valueAt vb key = none := by
        rw [← h1']
        cases q : valueAt vb p.1 with
        | none => rfl
        | some y => rw [q] at rr; cases rr
      have : hitK dt kb p = false := by unfold hitK; rw [e]
      rw [this, Bool.false_and]
      exact .miss hv
    | some u =>
      rw [e] at rr
      obtain ⟨y, hy, ry⟩ := (rr.some_of)
      rw [h1'] at hy
      have : hitK dt kb p = PyData.eqv (dt p.2) (dt u) := by unfold hitK; rw [e]
      rw [this]
      exact .hit hy (he p List.mem_cons_self u e _ _ h2 ry) rest
theorem op_eqK (hu : X.A.units + 70 < cLine) : OpR X (compareOp .Eq) (rEqK X.K) := by
  intro pins s σ H x y v u Q I rx ry wish
  obtain ⟨a, b, ka, kb, dt, rfl, rfl, ha, hb, da, db, q⟩ := wish
  obtain rfl : v = .ref a := rx
  obtain rfl : u = .ref b := ry
  obtain ⟨_, ya, va, ra, oa⟩ := (show ObjOk X.prog X.w H s.heap a (.dK ka) from I.hok a _ ha)
  obtain ⟨_, yb, vb, rb, ob⟩ := (show ObjOk X.prog X.w H s.heap b (.dK kb) from I.hok b _ hb)
  refine PySem.W.rcP_dicts (knd := mixKind X.prog X.w) (r := ka.all (hitK dt kb)) ya yb oa ob (by omega) (fun _ => hits_all rb ra fun p hp u' hu' v y rv ry => ?_) _ _ ?_
  · obtain ⟨p2, hp2, _, e2⟩ := valV_mem hu'
    obtain ⟨d1, s1⟩ := da p hp
    obtain ⟨d2, s2⟩ := db p2 hp2
    rw [e2] at d2 s2
    obtain ⟨as, r1⟩ := Dp.reads I _ _ _ d1 rv
    obtain ⟨bs, r2⟩ := Dp.reads I _ _ _ d2 ry
    exact (SeqAt.eqAt_reads _ _ X.A.in1 s _ _ _ _ r1 r2 (SeqAt.canLay_of_shaped s1) (SeqAt.canLay_of_shaped s2) (SeqAt.room_of_shaped s1 (by show X.A.units + 1 + 64 < cLine; omega))).eqP
  · rw [← ra.length, ← rb.length]
    exact ⟨.bl _, H, I, rfl, q⟩
end
end Hb
end

section
set_option Elab.async false
set_option linter.all false
set_option maxRecDepth 100000
set_option maxHeartbeats 2500000
namespace Hb
open L2 PySem PySem.Spec PyProof.Rows LamX
open Sq31 (Deed Act House)

/-! ### the house in the heap -/
structure Hw where
  dx : Addr
  dl : Addr
  kl : Addr
  L : List Row
  ds : List Addr
def hF (W : Hw) : List (Str × V) := [("done", .ref W.dl), ("known", .ref W.kl)]
theorem hF_done (W : Hw) : (hF W).lookup ("done" : Str) = some (.ref W.dl) := lk_here
theorem hF_known (W : Hw) : (hF W).lookup ("known" : Str) = some (.ref W.kl) := (lk_past (by decide +kernel)).trans lk_here
theorem hF_no {W : Hw} {m : Str} (h1 : (m == "done") = false) (h2 : (m == "known") = false) : (hF W).lookup m = none := (lk_past h1).trans ((lk_past h2).trans rfl)
def trues (l : List Nat) : List (Key × V) := l.map fun n : Nat => (Sum.inl (n : Int), .bl true)
theorem trues_len (l : List Nat) : (trues l).length = l.length := List.length_map ..
theorem trues_val (n : Nat) : ∀ l : List Nat, valV (trues l) (Sum.inl (n : Int)) = if n ∈ l then some (.bl true) else none
  | [] => rfl
  | m :: l => by
    by_cases h : m = n
    · subst h
      rw [if_pos List.mem_cons_self]
      exact valV_pos rfl
    · have ih := trues_val n l
      unfold trues
      rw [List.map_cons, valV_neg (fun z => h (by injection z with z; exact Int.ofNat.inj z))]
      show valV (trues l) _ = _
      rw [ih]
      by_cases h2 : n ∈ l
      · rw [if_pos h2, if_pos (List.mem_cons_of_mem _ h2)]
      · rw [if_neg h2, if_neg (fun z => (List.mem_cons.mp z).elim (fun y => h y.symm) h2)]
def addN (l : List Nat) (n : Nat) : List Nat := if n ∈ l then l else l ++ [n]
theorem put_trues (l : List Nat) (n : Nat) : putK (trues l) (Sum.inl (n : Int)) (.bl true) = trues (addN l n) := by
  unfold addN putK
  rw [valV_any, trues_val]
  by_cases h : n ∈ l
  · rw [if_pos h, if_pos h]
    show (if true = true then _ else _) = _
    rw [if_pos rfl]
    unfold trues
    rw [List.map_map]
    refine List.map_congr_left fun m _ => ?_
    show (if (Sum.inl (m : Int) : Key) = Sum.inl (n : Int) then _ else _) = _
    split <;> rfl
  · rw [if_neg h, if_neg h]
    show (if false = true then _ else _) = _
    rw [(if_neg Bool.false_ne_true)]
    unfold trues
    rw [List.map_append]
    rfl
theorem addN_len (l : List Nat) (n : Nat) : (addN l n).length ≤ l.length + 1 := by
  unfold addN
  split
  · omega
  · rw [List.length_append]; exact Nat.le_refl _

structure HouseAt (c : Cs) (H : Hp) (a : Addr) (W : Hw) (s : S) : Prop where
  ins : H a = some (.ins c.H W.dx (hF W))
  done : H W.dl = some (.lst (refs W.L))
  rows : Rows c H W.L
  secs : seconds W.L = s.done
  known : H W.kl = some (.lst (W.ds.map V.ref))
  ne : W.dl ≠ W.kl
  nd : W.ds.Nodup
  len : W.ds.length = s.known.length
  dict : ∀ (k : Nat) (b : Addr) (l : List Nat), W.ds[k]? = some b → s.known[k]? = some l → H b = some (.dK (trues l))
def foot (a : Addr) (W : Hw) : List Addr := a :: W.dl :: W.kl :: W.ds
structure HStep (a : Addr) (H : Hp) (W : Hw) (H' : Hp) (W' : Hw) : Prop where
  sub : ∀ b ∈ foot a W', b ∈ foot a W ∨ NewN H b
  keep : ∀ b o, H b = some o → (∀ ps, o ≠ .tbl ps) → b ∉ foot a W → H' b = some o
theorem HStep.refl (a : Addr) (H : Hp) (W : Hw) : HStep a H W H W := ⟨fun _ h => .inl h, fun _ _ h _ _ => h⟩
theorem HStep.trans {a : Addr} {H H1 H2 : Hp} {W W1 W2 : Hw} (h : HStep a H W H1 W1) (g : HStep a H1 W1 H2 W2) : HStep a H W H2 W2 := by
  refine ⟨fun b hb => ?_, fun b o ho ht hf => ?_⟩
  · rcases g.sub b hb with q | q
    · exact h.sub b q
    · by_cases hf : b ∈ foot a W
      · exact .inl hf
      · refine .inr fun o ho => Classical.byContradiction fun z => ?_
        obtain ⟨ps, e⟩ := q o (h.keep b o ho (fun ps e => z ⟨ps, e⟩) hf)
        exact z ⟨ps, e⟩
  · refine g.keep b o (h.keep b o ho ht hf) ht fun z => ?_
    rcases h.sub b z with q | q
    · exact hf q
    · obtain ⟨ps, e⟩ := q o ho
      exact ht ps e
theorem HStep.ext {a : Addr} {H H1 : Hp} {W : Hw} (e : ExtN H H1) : HStep a H W H1 W := ⟨fun _ h => .inl h, fun b o h t _ => e b o h t⟩
theorem HStep.same {a : Addr} {H H1 : Hp} {W : Hw} (e : Same H H1) : HStep a H W H1 W := .ext (extN_of_same e)
/-- what lies elsewhere still does -/
theorem HStep.out {a b : Addr} {H H1 : Hp} {W W1 : Hw} {o : HO} (h : HStep a H W H1 W1) (hb : H b = some o) (ht : ∀ ps, o ≠ .tbl ps) (hf : b ∉ foot a W) : b ∉ foot a W1 := fun z => by
  rcases h.sub b z with q | q
  · exact hf q
  · obtain ⟨ps, e⟩ := q o hb
    exact ht ps e
theorem HStep.new {a b : Addr} {H H1 : Hp} {W W1 : Hw} (h : HStep a H W H1 W1) (n : NewN H1 b) (hf : b ∉ foot a W) : NewN H b := fun o ho => Classical.byContradiction fun z => by
  obtain ⟨ps, e⟩ := n o (h.keep b o ho (fun ps e => z ⟨ps, e⟩) hf)
  exact z ⟨ps, e⟩
theorem sq_tree {H H' : Hp} {p : Addr} {t : Sq28.Tree} {b : Nat} (h : TreeAt H p t b) (e : ∀ q o, H q = some o → (∀ ps, o ≠ .tbl ps) → q = p ∨ (∃ xs, o = .tup xs) → H' q = some o) : TreeAt H' p t b := by
  obtain ⟨kvs, h1, h2, h3, h4⟩ := h
  exact ⟨kvs, e _ _ h1 notTbl_dK (.inl rfl), h2, fun n => (h3 n).same fun t xs q => e _ _ q notTbl_tup (.inr ⟨xs, rfl⟩), h4⟩

section
variable {c : Cs} {H : Hp} {a : Addr} {W : Hw} {s : S}
theorem HouseAt.ext (h : HouseAt c H a W s) {H' : Hp} (e : ExtN H H') : HouseAt c H' a W s :=
  ⟨e _ _ h.ins notTbl_ins, e _ _ h.done notTbl_lst, h.rows.ext e, h.secs, e _ _ h.known notTbl_lst, h.ne, h.nd, h.len, fun k b l h1 h2 => e _ _ (h.dict k b l h1 h2) notTbl_dK⟩
theorem HouseAt.at (h : HouseAt c H a W s) {k : Nat} (hk : k < s.known.length) : ∃ b, W.ds[k]? = some b ∧ H b = some (.dK (trues (s.ks k))) := by
  have h1 : k < W.ds.length := by rw [h.len]; exact hk
  refine ⟨_, List.getElem?_eq_getElem h1, ?_⟩
  have e : s.known[k]? = some (s.ks k) := by
    unfold S.ks
    rw [List.getElem?_eq_getElem hk]
    rfl
  exact h.dict k _ _ (List.getElem?_eq_getElem h1) e
/-- a tuple or a deed lies elsewhere -/
theorem HouseAt.tup_out (h : HouseAt c H a W s) {t : Addr} {xs : List V} (ht : H t = some (.tup xs)) : t ∉ foot a W := fun z => by
  unfold foot at z
  rcases List.mem_cons.mp z with rfl | z
  · rw [h.ins] at ht; cases ht
  rcases List.mem_cons.mp z with rfl | z
  · rw [h.done] at ht; cases ht
  rcases List.mem_cons.mp z with rfl | z
  · rw [h.known] at ht; cases ht
  obtain ⟨k, hk⟩ := List.getElem?_of_mem z
  have hl : k < s.known.length := by
    rw [← h.len]
    exact (List.getElem?_eq_some_iff.mp hk).1
  obtain ⟨b, h1, h2⟩ := h.at hl
  rw [hk] at h1
  cases h1
  rw [h2] at ht
  cases ht
/-- a tree outside the house stays -/
theorem HouseAt.tree (h : HouseAt c H a W s) {H' : Hp} {W' : Hw} (g : HStep a H W H' W') {p : Addr} {t : Sq28.Tree} {b : Nat} (ht : TreeAt H p t b) (hp : p ∉ foot a W) : TreeAt H' p t b :=
  sq_tree ht fun q o hq hn z => g.keep q o hq hn (by
    rcases z with rfl | ⟨xs, rfl⟩
    · exact hp
    · exact h.tup_out hq)
/-- one desk's knowledge is written anew -/
theorem HouseAt.put (h : HouseAt c H a W s) {k : Nat} {b : Addr} (hb : W.ds[k]? = some b) (hk : k < s.known.length) (l : List Nat) : HouseAt c (upd H b (.dK (trues l))) a W ⟨s.done, s.known.set k l⟩ ∧ HStep a H W (upd H b (.dK (trues l))) W ∧ ∀ T, Tabs T H → Tabs T (upd H b (.dK (trues l))) := by
  obtain ⟨b', hb', hd⟩ := h.at hk
  rw [hb] at hb'
  cases hb'
  have up : ∀ q o, H q = some o → (∀ kvs, o ≠ .dK kvs) → upd H b (.dK (trues l)) q = some o := fun q o hq hn => by
    rw [upd_ne (fun z => by rw [z, hd] at hq; cases hq; exact hn _ rfl)]
    exact hq
  refine ⟨⟨up _ _ h.ins (fun _ z => by cases z), up _ _ h.done (fun _ z => by cases z), fun p hp => ?_, h.secs, up _ _ h.known (fun _ z => by cases z), h.ne, h.nd, ?_, fun j b2 l2 h1 h2 => ?_⟩, ⟨fun _ z => .inl z, fun q o hq _ hf => ?_⟩, fun T t => Tabs.write t hd notTbl_dK dK_code⟩
  · obtain ⟨dx, t, h1, h2⟩ := h.rows p hp
    exact ⟨dx, t, up _ _ h1 (fun _ z => by cases z), up _ _ h2 (fun _ z => by cases z)⟩
  · rw [List.length_set]
    exact h.len
  · rw [List.getElem?_set] at h2
    by_cases hj : k = j
    · rw [if_pos hj] at h2
      subst hj
      rw [hb] at h1
      cases h1
      rw [if_pos hk] at h2
      cases h2
      exact upd_same
    · rw [if_neg hj] at h2
      rw [upd_ne]
      · exact h.dict j b2 l2 h1 h2
      · intro z
        subst z
        have h3 := (List.getElem?_eq_some_iff.mp h1)
        have h4 := (List.getElem?_eq_some_iff.mp hb)
        exact hj ((List.getElem_inj h.nd).mp (h4.2.trans h3.2.symm))
  · rw [upd_ne]
    · exact hq
    · rintro rfl
      exact hf (List.mem_cons_of_mem _ (List.mem_cons_of_mem _ (List.mem_cons_of_mem _ (List.mem_of_getElem? hb))))
/-- a deed more -/
theorem HouseAt.push (h : HouseAt c H a W s) {p : Addr} {d : Deed} (hp : DeedAt c H p d) : HouseAt c (upd H W.dl (.lst (refs (W.L ++ [(p, d)])))) a { W with L := W.L ++ [(p, d)] } ⟨s.done ++ [d], s.known⟩ ∧ HStep a H W (upd H W.dl (.lst (refs (W.L ++ [(p, d)])))) { W with L := W.L ++ [(p, d)] } ∧
    (∀ T, Tabs T H → Tabs T (upd H W.dl (.lst (refs (W.L ++ [(p, d)]))))) := by
  have up : ∀ q o, H q = some o → q ≠ W.dl → upd H W.dl (.lst (refs (W.L ++ [(p, d)]))) q = some o := fun q o hq hn => by
    rw [upd_ne hn]
    exact hq
  have upk : ∀ q o, H q = some o → (∀ xs, o ≠ .lst xs) → upd H W.dl (.lst (refs (W.L ++ [(p, d)]))) q = some o := fun q o hq hn => up q o hq fun z => by
    rw [z, h.done] at hq
    cases hq
    exact hn _ rfl
  have deed : ∀ q e, DeedAt c H q e → DeedAt c (upd H W.dl (.lst (refs (W.L ++ [(p, d)])))) q e := fun q e hq => by
    obtain ⟨dx, t, h1, h2⟩ := hq
    exact ⟨dx, t, upk _ _ h1 (fun _ z => by cases z), upk _ _ h2 (fun _ z => by cases z)⟩
  refine ⟨⟨upk _ _ h.ins (fun _ z => by cases z), upd_same, fun q hq => ?_, ?_, up _ _ h.known h.ne.symm, h.ne, h.nd, h.len, fun k b l h1 h2 => upk _ _ (h.dict k b l h1 h2) (fun _ z => by cases z)⟩, ⟨fun _ z => .inl z, fun q o hq _ hf => up q o hq fun z => ?_⟩, fun T t => Tabs.write t h.done notTbl_lst lst_code⟩
  · rcases (List.mem_append.mp hq) with hq | hq
    · exact deed _ _ (h.rows q hq)
    · rw [(List.mem_singleton.mp hq)]
      exact deed _ _ hp
  · show seconds (W.L ++ [(p, d)]) = s.done ++ [d]
    rw [← h.secs]
    unfold seconds
    rw [List.map_append]
    rfl
  · rw [z] at hf
    exact hf (List.mem_cons_of_mem _ List.mem_cons_self)
end

/-- what the top has written of the house -/
structure TxtH (K : PySem.W.Frag) (mg : Str → Option Value) (c : Cs) : Prop where
  cl : Cls K c.H
  nD : NoAttr K c.H "done"
  nK : NoAttr K c.H "known"
  most : ∃ t, mg "MOST_DEEDS" = some (.int 120 t)
  bList : mg "list" = none
theorem dec_lt (a b : Nat) : decide ((a : Int) < (b : Int)) = decide (a < b) := by
  rw [Bool.eq_iff_iff]
  simp
theorem dec_le (a b : Nat) : decide ((a : Int) ≤ (b : Int)) = decide (a ≤ b) := by
  rw [Bool.eq_iff_iff]
  simp
abbrev hs (j : Nat) : Stmt := inClass (top 28) j
section
variable {P : Program} {w : World} {K : PySem.W.Frag} {mg : Str → Option Value} {base : Heap} {c : Cs}
/-! ### has_desk, is_full, has_deed -/
def spHasDesk (c : Cs) : Sp := fun vs H Q _ => ∃ (a : Addr) (W : Hw) (s : S) (k : Nat), vs = [.ref a, I k] ∧ HouseAt c H a W s ∧ Q (.bl (decide (k < s.known.length))) H
theorem sc_has_desk : FnScope ["self", "desk"] ["self", "desk"] (defScope (hs 2)) := ⟨rfl, rfl, rfl, by decide +kernel, rfl, by decide +kernel, by decide +kernel⟩
theorem ok_has_desk {f : Addr} {fd : FuncData} {k : Nat} (F : L2.Fun K "has_desk" "House.has_desk" (hs 2) f fd) (T : Txt K mg c) (TH : TxtH K mg c) : FnOk P w K mg base L2.CX0 (k + 1) f fd ["self", "desk"] (spHasDesk c) := by
  refine F.ok sc_has_desk (fun vs H Q E h => ?_) fun cdv A outer s H vs Q E hr h => ⟨_, pss_one (ps_ret (pe_cmpR op_lt (pv 1) (pe_callB call_len_seq (by rfl) T.bLen PySem.boot_len (pa_cons (pe_fld (pv 0) rfl) pa_nil)) (nomark _))), ?_⟩
  · obtain ⟨a, W, s, k, rfl, _⟩ := h
    rfl
  obtain ⟨a, W, s, k, rfl, h, q⟩ := h
  refine ⟨_, rfl, _, rfl, a, c.H, W.dx, _, _, rfl, h.ins, TH.cl, TH.nK, hF_known W, _, _, rfl, .inl (SqL.of h.known), _, _, rfl, rfl, ?_⟩
  rw [List.length_map, h.len]
  rw [← dec_lt] at q
  exact q
def spIsFull (c : Cs) : Sp := fun vs H Q _ => ∃ (a : Addr) (W : Hw) (s : S), vs = [.ref a] ∧ HouseAt c H a W s ∧ Q (.bl (decide (120 ≤ s.done.length))) H
theorem sc_is_full : FnScope ["self"] ["self"] (defScope (hs 3)) := ⟨rfl, rfl, rfl, by decide +kernel, rfl, by decide +kernel, by decide +kernel⟩
theorem refs_len (L : List Row) : (refs L).length = (seconds L).length := by unfold refs seconds; rw [List.length_map, List.length_map]
theorem ok_is_full {f : Addr} {fd : FuncData} {k : Nat} (F : L2.Fun K "is_full" "House.is_full" (hs 3) f fd) (T : Txt K mg c) (TH : TxtH K mg c) : FnOk P w K mg base L2.CX0 (k + 1) f fd ["self"] (spIsFull c) := by
  obtain ⟨t0, h0⟩ := TH.most
  refine F.ok sc_is_full (fun vs H Q E h => ?_) fun cdv A outer s H vs Q E hr h => ⟨_, pss_one (ps_ret (pe_cmpR op_ge (pe_callB call_len_seq (by rfl) T.bLen PySem.boot_len (pa_cons (pe_fld (pv 0) rfl) pa_nil)) (pe_glob (v := .int 120) rfl h0 ⟨_, rfl⟩) (nomark _))), ?_⟩
  · obtain ⟨a, W, s, rfl, _⟩ := h
    rfl
  obtain ⟨a, W, s, rfl, h, q⟩ := h
  refine ⟨_, rfl, a, c.H, W.dx, _, _, rfl, h.ins, TH.cl, TH.nD, hF_done W, _, _, rfl, .inl (SqL.of h.done), _, _, rfl, rfl, ?_⟩
  rw [refs_len, h.secs]
  rw [← dec_le] at q
  exact q
def spHasDeed (c : Cs) : Sp := fun vs H Q _ => ∃ (a : Addr) (W : Hw) (s : S) (n : Nat), vs = [.ref a, I n] ∧ HouseAt c H a W s ∧ Q (.bl (decide (n < s.done.length))) H
theorem sc_has_deed : FnScope ["self", "number"] ["self", "number"] (defScope (hs 4)) := ⟨rfl, rfl, rfl, by decide +kernel, rfl, by decide +kernel, by decide +kernel⟩
theorem ok_has_deed {f : Addr} {fd : FuncData} {k : Nat} (F : L2.Fun K "has_deed" "House.has_deed" (hs 4) f fd) (T : Txt K mg c) (TH : TxtH K mg c) : FnOk P w K mg base L2.CX0 (k + 1) f fd ["self", "number"] (spHasDeed c) := by
  refine F.ok sc_has_deed (fun vs H Q E h => ?_) fun cdv A outer s H vs Q E hr h => ⟨_, pss_one (ps_ret (pe_cmpR op_lt (pv 1) (pe_callB call_len_seq (by rfl) T.bLen PySem.boot_len (pa_cons (pe_fld (pv 0) rfl) pa_nil)) (nomark _))), ?_⟩
  · obtain ⟨a, W, s, n, rfl, _⟩ := h
    rfl
  obtain ⟨a, W, s, n, rfl, h, q⟩ := h
  refine ⟨_, rfl, _, rfl, a, c.H, W.dx, _, _, rfl, h.ins, TH.cl, TH.nD, hF_done W, _, _, rfl, .inl (SqL.of h.done), _, _, rfl, rfl, ?_⟩
  rw [refs_len, h.secs]
  rw [← dec_lt] at q
  exact q
/-! ### has_own_move -/
def spHasOwn (c : Cs) : Sp := fun vs H Q _ => ∃ (a : Addr) (W : Hw) (s : S) (k n : Nat), vs = [.ref a, I k, I n] ∧ HouseAt c H a W s ∧ Q (.bl ((s.done[n]?).any (ownMove k))) H
theorem sc_has_own : FnScope ["self", "desk", "number"] ["self", "desk", "number"] (defScope (hs 5)) := ⟨rfl, rfl, rfl, by decide +kernel, rfl, by decide +kernel, by decide +kernel⟩
theorem row_at {L : List Row} {n : Nat} (h : n < (seconds L).length) : ∃ r, L[n]? = some r ∧ (seconds L)[n]? = some r.2 ∧ (refs L)[n]? = some (.ref r.1) := by
  have h1 : n < L.length := by
    unfold seconds at h
    rw [List.length_map] at h
    exact h
  refine ⟨L[n], List.getElem?_eq_getElem h1, seconds_at (List.getElem?_eq_getElem h1), ?_⟩
  unfold refs
  rw [(List.getElem?_map), List.getElem?_eq_getElem h1]
  rfl
theorem ok_has_own {f : Addr} {fd : FuncData} (F : L2.Fun K "has_own_move" "House.has_own_move" (hs 5) f fd) (TH : TxtH K mg c) (mD : C8.Met P w K mg base 1 c.H "has_deed" (spHasDeed c) []) (cI : C8.Cal P w K mg base 1 "is_move_of" (spIsMoveOf c) []) :
    FnOk P w K mg base L2.CX0 2 f fd ["self", "desk", "number"] (spHasOwn c) := by
  refine F.ok sc_has_own (fun vs H Q E h => ?_) fun cdv A outer s H vs Q E hr h => ⟨_, pss_one (ps_ret (pe_and (C8.pe_mt mD hr (Nat.le_refl _) (pv 0) (pa_cons (pv 2) pa_nil)) (pe_one (C8.pe_c cI hr (Nat.le_refl _) rfl (pa_cons (pv 1) (pa_cons (pe_ix ix_list (pe_fld (pv 0) rfl) (pv 2) (fun _ _ => rfl)) pa_nil)))))), ?_⟩
  · obtain ⟨a, W, s, k, n, rfl, _⟩ := h
    rfl
  obtain ⟨a, W, s, k, n, rfl, h, q⟩ := h
  refine ⟨_, rfl, a, _, _, rfl, h.ins, hF_no (by decide +kernel) (by decide +kernel), _, rfl, a, W, s, n, rfl, h, _, rfl, ?_⟩
  by_cases hn : n < s.done.length
  · rw [decide_eq_true hn]
    obtain ⟨r, h1, h2, h3⟩ := row_at (L := W.L) (n := n) (by rw [h.secs]; exact hn)
    rw [h.secs] at h2
    rw [h2] at q
    exact iteT ⟨_, rfl, _, rfl, a, c.H, W.dx, _, _, rfl, h.ins, TH.cl, TH.nD, hF_done W, _, rfl, _, _, _, _, rfl, rfl, SqL.of h.done, atI_nat h3, k, r.1, r.2, rfl, h.rows r (List.mem_of_getElem? h1), q⟩
  · rw [decide_eq_false hn]
    rw [List.getElem?_eq_none (Nat.not_lt.mp hn)] at q
    exact iteF q
/-! ### known_deeds -/
def pickR (L : List Row) (l : List Nat) : List Row := l.filterMap fun i => L[i]?
theorem seconds_pick (L : List Row) (l : List Nat) : seconds (pickR L l) = pick (seconds L) l := by
  unfold seconds pickR pick
  rw [List.map_filterMap]
  congr 1
  funext i
  rw [List.getElem?_map]
theorem pickR_mem {L : List Row} {l : List Nat} {r : Row} (h : r ∈ pickR L l) : r ∈ L := by
  obtain ⟨i, _, e⟩ := List.mem_filterMap.mp h
  exact List.mem_of_getElem? e
def spKnown (K : PySem.W.Frag) (c : Cs) : Sp := fun vs H Q _ => ∃ (a : Addr) (W : Hw) (s : S) (k : Nat), vs = [.ref a, I k] ∧ HouseAt c H a W s ∧ k < s.known.length ∧ (∀ i ∈ s.ks k, i < s.done.length) ∧ (s.ks k).length ≤ 1000 ∧
  ∀ (H' : Hp) (p : Addr) (L : List Row), Same H H' → H p = none → H' p = some (.lst (refs L)) → Rows c H' L → seconds L = s.kd k → Q (.ref p) H'
theorem sc_known : FnScope ["self", "desk", "number"] ["self", "desk"] (defScope (hs 6)) := ⟨rfl, rfl, rfl, by decide +kernel, rfl, by decide +kernel, by decide +kernel⟩
theorem ok_known {f : Addr} {fd : FuncData} {k : Nat} (F : L2.Fun K "known_deeds" "House.known_deeds" (hs 6) f fd) (TH : TxtH K mg c) : FnOk P w K mg base L2.CX0 (k + 1) f fd ["self", "desk"] (spKnown K c) := by
  refine F.ok sc_known (fun vs H Q E h => ?_) fun cdv A outer s H vs Q E hr h => ⟨_, pss_one (ps_ret (pe_lock (pe_lc (own := [("number", 2)]) (g := gName 2) (tt := tYes) (te := tOp (rIxL K) (tFld K (tVar 0) "done") (tVar 2)) rfl sc_known.nd
      (pi_keys (pe_ix ix_list (pe_fld (pv 0) rfl) (pv 1) (fun _ _ => rfl))) (blkOk_by (own := [("number", 2)]) (N := ["self", "desk", "number"]) (sc := defScope (hs 6)) (by decide +kernel))
      (fun _ _ _ _ _ => pg_name (i := 2) sc_known.nd rfl (Or.inl rfl)) (fun _ _ _ _ _ => pts_nil) (fun _ _ _ _ _ => pe_ix ix_list (pe_fld (pv 0) rfl) (pv 2) (fun _ _ => rfl))))), ?_⟩
  · obtain ⟨a, W, s, k, rfl, _⟩ := h
    rfl
  obtain ⟨a, W, s, k, rfl, h, hk, hlt, hlen, q⟩ := h
  obtain ⟨b, hb, hd⟩ := h.at hk
  refine ⟨b, _, hd, trivial, fun od => ?_⟩
  have up : ∀ q o, H q = some o → (∀ kvs, o ≠ .dK kvs) → upd H b (.frz od (.dK (trues (s.ks k)))) q = some o := fun q o hq hn => by
    rw [upd_ne (fun z => by rw [z, hd] at hq; cases hq; exact hn _ rfl)]
    exact hq
  have hix : (W.ds.map V.ref)[k]? = some (.ref b) := by rw [List.getElem?_map, hb]; rfl
  refine ⟨_, rfl, a, c.H, W.dx, _, _, rfl, up _ _ h.ins (fun _ z => by cases z), TH.cl, TH.nK, hF_known W, _, rfl, _, _, _, _, rfl, rfl, SqL.of (up _ _ h.known (fun _ z => by cases z)), atI_nat hix, b, od, rfl, .inl ⟨trues (s.ks k), upd_same, fun D hD => ?_⟩⟩
  have hbD : b ≠ D := fun z => by rw [← z, upd_same] at hD; cases hD
  have hD0 : H D = none := by rw [upd_ne hbD.symm] at hD; exact hD
  refine lc_it (walk_keys (d := b) (o := od) (kvs := trues (s.ks k))) (fun i H' => H' b = some (.frz od (.dK (trues (s.ks k)))) ∧ (∀ q o, q ≠ b → H q = some o → H' q = some o) ∧ H' D = some (.lst (refs (pickR W.L ((s.ks k).take i)))))
    ⟨by rw [upd_ne hbD, upd_same], fun q o hq ho => by rw [upd_ne (ne_of_none ho hD0), upd_ne hq]; exact ho, upd_same⟩ (fun i H' _ z => z.1) ?_ ?_
  · rintro i x H' H2 hi ⟨h1, h2, h3⟩ ⟨rfl, key, v, hkv, rfl⟩
    rw [trues_len] at hi
    have e : (trues (s.ks k))[i]? = some (Sum.inl (((s.ks k)[i] : Nat) : Int), .bl true) := by
      unfold trues
      rw [(List.getElem?_map), List.getElem?_eq_getElem hi]
      rfl
    rw [e] at hkv
    cases hkv
    have hin := hlt _ (List.getElem_mem hi)
    obtain ⟨r, r1, r2, r3⟩ := row_at (L := W.L) (n := (s.ks k)[i]) (by rw [h.secs]; exact hin)
    have hab : a ≠ b := fun z => by rw [← z, h.ins] at hd; cases hd
    have hdb : W.dl ≠ b := fun z => by rw [← z, h.done] at hd; cases hd
    refine ⟨rfl, _, rfl, a, c.H, W.dx, _, _, rfl, h2 _ _ hab h.ins, TH.cl, TH.nD, hF_done W, _, rfl, _, _, _, _, rfl, rfl, SqL.of (h2 _ _ hdb h.done), atI_nat r3, _, h3, ?_, ?_, ?_, ?_⟩
    · unfold refs
      rw [List.length_map]
      have := List.length_filterMap_le (fun i => W.L[i]?) ((s.ks k).take i)
      unfold pickR
      have h4 : ((s.ks k).take i).length ≤ (s.ks k).length := by rw [List.length_take]; omega
      exact small1000 (by omega)
    · rw [upd_ne hbD]
      exact h1
    · intro q o hq ho
      rw [upd_ne (ne_of_none ho hD0)]
      exact h2 q o hq ho
    · rw [upd_same, take_snoc (List.getElem?_eq_getElem hi)]
      unfold pickR refs
      rw [List.filterMap_append, List.map_append, List.filterMap_cons, r1]
      rfl
  · rintro H' ⟨h1, h2, h3⟩
    rw [trues_len, List.take_of_length_le (Nat.le_refl _)] at h3
    refine ⟨h1, ?_⟩
    have sm : Same H (upd H' b (.dK (trues (s.ks k)))) := fun q o hq => by
      by_cases z : q = b
      · rw [z] at hq ⊢
        rw [upd_same]
        rw [hd] at hq
        exact hq
      · rw [upd_ne z]
        exact h2 q o z hq
    refine q _ D (pickR W.L (s.ks k)) sm hD0 (by rw [upd_ne hbD.symm]; exact h3) (fun r hr => (h.rows.ext (extN_of_same sm)) r (pickR_mem hr)) ?_
    rw [seconds_pick, h.secs]
    rfl
end
end Hb
end

section
set_option Elab.async false
set_option linter.all false
set_option maxRecDepth 100000
set_option maxHeartbeats 2500000
namespace Hb
open L2 PySem PySem.Spec PyProof.Rows LamX
open Sq31 (Deed Act House)

structure Fine (s : S) (h : House) : Prop where
  good : Good s h
  full : s.done.length ≤ 120
  few : s.known.length ≤ 8
theorem ks_len {s : S} {h : House} (g : Good s h) (k : Nat) : (s.ks k).length ≤ s.done.length := by
  have := nodup_le (l := s.ks k) (m := List.range s.done.length) (g.nodup k) fun x hx => List.mem_range.mpr (g.lt k x hx)
  rw [List.length_range] at this
  exact this
theorem Fine.ks (f : Fine s h) (k : Nat) : (s.ks k).length ≤ 120 := Nat.le_trans (ks_len f.good k) f.full
theorem kd_len {s : S} {h : House} (g : Good s h) (k : Nat) : (s.kd k).length = (s.ks k).length := pick_len (g.lt k)
theorem sec_len {L : List Row} {s : S} {h : House} (f : Fine s h) {k : Nat} (e : seconds L = s.kd k) : L.length ≤ 120 := by
  have h1 : (seconds L).length = L.length := by unfold seconds; rw [List.length_map]
  rw [← h1, e, kd_len f.good]
  exact f.ks k
theorem held_len (L : List Row) : (heldL L).length ≤ L.length := by
  unfold heldL
  have := List.length_filter_le (fun r : Row => r.2.isMove && heldIn (seconds (sortL L)) r.2.id) (sortL L)
  rw [sort_len] at this
  exact this
theorem held_mem {L : List Row} {r : Row} (h : r ∈ heldL L) : r ∈ L := sort_mem.mp (List.mem_filter.mp h).1
theorem room70 {k : Nat} {A : Around} (r : Room k A) : A.units + 70 < cLine := by
  have := r.un
  omega
section
variable {c : Cs} {H : Hp} {a : Addr} {W : Hw} {s : S} {h : House}
/-- a new place is none of the house's -/
theorem HouseAt.new_out (hh : HouseAt c H a W s) {p : Addr} (n : NewN H p) : p ∉ foot a W := fun z => by
  unfold foot at z
  rcases List.mem_cons.mp z with rfl | z
  · obtain ⟨_, e⟩ := n _ hh.ins; cases e
  rcases List.mem_cons.mp z with rfl | z
  · obtain ⟨_, e⟩ := n _ hh.done; cases e
  rcases List.mem_cons.mp z with rfl | z
  · obtain ⟨_, e⟩ := n _ hh.known; cases e
  obtain ⟨k, hk⟩ := List.getElem?_of_mem z
  have hl : k < s.known.length := by
    rw [← hh.len]
    exact (List.getElem?_eq_some_iff.mp hk).1
  obtain ⟨b, h1, h2⟩ := hh.at hl
  rw [hk] at h1
  cases h1
  obtain ⟨_, e⟩ := n _ h2
  cases e
theorem NewN.none {p : Addr} (h : H p = none) : NewN H p := fun o ho => by rw [h] at ho; cases ho
theorem tree_of_known (f : Fine s h) {L : List Row} {k : Nat} (e : seconds L = s.kd k) : Sq28.treeOf (movedL (heldL L)) = h.tree k := by
  rw [held_live, e]
  unfold House.tree Sq31.treeOf
  rw [f.good.desk]
end

section
variable {P : Program} {w : World} {K : PySem.W.Frag} {mg : Str → Option Value} {base : Heap} {c : Cs} {Tb : List (Addr × Str)}
/-! ### tree_at -/
def spTreeAt (c : Cs) (T : List (Addr × Str)) : Sp := fun vs H Q _ => ∃ (a : Addr) (W : Hw) (s : S) (h : House) (k : Nat), vs = [.ref a, I k] ∧ HouseAt c H a W s ∧ Fine s h ∧ k < s.known.length ∧ Tabs T H ∧
  ∀ (H' : Hp) (p : Addr), ExtN H H' → Tabs T H' → NewN H p → TreeAt H' p (h.tree k) 900 → Q (.ref p) H'
theorem sc_tree_at : FnScope ["self", "desk"] ["self", "desk"] (defScope (hs 7)) := ⟨rfl, rfl, rfl, by decide +kernel, rfl, by decide +kernel, by decide +kernel⟩
theorem ok_tree_at {f : Addr} {fd : FuncData} (F : L2.Fun K "tree_at" "House.tree_at" (hs 7) f fd) (mK : C8.Met P w K mg base 1 c.H "known_deeds" (spKnown K c) []) (cM : C8.Cal P w K mg base 3 "moves_that_hold" (spMoves K c Tb) []) (cT : C8.Cal P w K mg base 3 "tree_of" (spTreeOf K c) []) :
    FnOk P w K mg base L2.CX0 4 f fd ["self", "desk"] (spTreeAt c Tb) := by
  refine F.ok sc_tree_at (fun vs H Q E h => ?_) fun cdv A outer s H vs Q E hr h => ⟨_, pss_one (ps_ret (C8.pe_c cT hr (Nat.le_refl _) rfl (pa_cons (C8.pe_c cM hr (Nat.le_refl _) rfl (pa_cons (C8.pe_mt mK hr (by decide) (pv 0) (pa_cons (pv 1) pa_nil)) pa_nil)) pa_nil))), ?_⟩
  · obtain ⟨a, W, s, h, k, rfl, _⟩ := h
    rfl
  obtain ⟨a, W, s, h, k, rfl, hh, hf, hk, ht, q⟩ := h
  refine ⟨_, rfl, a, _, _, rfl, hh.ins, hF_no (by decide +kernel) (by decide +kernel), _, rfl, a, W, s, k, rfl, hh, hk, hf.good.lt k, Nat.le_trans (hf.ks k) (by decide), fun H1 p1 L e1 n1 hp1 hr1 hs1 => ?_⟩
  have hl := sec_len hf hs1
  refine ⟨p1, L, rfl, SqL.of hp1, hr1, ht.ext e1, by omega, fun H2 p2 e2 t2 n2 hp2 => ?_⟩
  refine ⟨p2, heldL L, rfl, SqL.of hp2, fun r hr => (hr1.ext e2) r (held_mem hr), held_move, by have := held_len L; omega, fun H3 p3 e3 n3 ht3 => ?_⟩
  rw [tree_of_known hf hs1] at ht3
  have e13 : ExtN H H2 := (extN_of_same e1).trans e2
  exact q H3 p3 (e13.trans (extN_of_same e3)) (t2.ext e3) (NewN.of e13 n3) ht3
/-! ### tree_without -/
def spTreeWo (c : Cs) (T : List (Addr × Str)) : Sp := fun vs H Q _ => ∃ (a : Addr) (W : Hw) (s : S) (h : House) (k i : Nat), vs = [.ref a, I k, I i] ∧ HouseAt c H a W s ∧ Fine s h ∧ k < s.known.length ∧ Tabs T H ∧
  ∀ (H' : Hp) (p : Addr), ExtN H H' → Tabs T H' → NewN H p → TreeAt H' p (Sq28.treeOf ((Sq31.live (h.desk k)).filter fun e => e.id != i)) 900 → Q (.ref p) H'
theorem sc_tree_wo : FnScope ["self", "desk", "number", "standing", "move"] ["self", "desk", "number"] (defScope (hs 8)) := ⟨rfl, rfl, rfl, by decide +kernel, rfl, by decide +kernel, by decide +kernel⟩
theorem ok_tree_wo {f : Addr} {fd : FuncData} (F : L2.Fun K "tree_without" "House.tree_without" (hs 8) f fd) (T : Txt K mg c) (mK : C8.Met P w K mg base 1 c.H "known_deeds" (spKnown K c) []) (cM : C8.Cal P w K mg base 3 "moves_that_hold" (spMoves K c Tb) []) (cT : C8.Cal P w K mg base 3 "tree_of" (spTreeOf K c) []) :
    FnOk P w K mg base L2.CX0 4 f fd ["self", "desk", "number"] (spTreeWo c Tb) := by
  refine F.ok sc_tree_wo (fun vs H Q E h => ?_) fun cdv A outer s H vs Q E hr h => ⟨_, pss_cons (ps_set (i := 3) sc_tree_wo.nd rfl (.inl rfl) (C8.pe_c cM hr (Nat.le_refl _) rfl (pa_cons (C8.pe_mt mK hr (by decide) (pv 0) (pa_cons (pv 1) pa_nil)) pa_nil)))
    (pss_one (ps_ret (C8.pe_c cT hr (Nat.le_refl _) rfl (pa_cons (pe_lc (own := [("move", 4)]) (g := gName 4) (tt := tTest (tOp rNe (tFld K (tVar 4) "number") (tVar 2))) (te := tVar 4) rfl sc_tree_wo.nd
      (pi_list (pv 3)) (blkOk_by (own := [("move", 4)]) (N := ["self", "desk", "number", "standing", "move"]) (sc := defScope (hs 8)) (by decide +kernel))
      (fun _ _ _ _ _ => pg_name (i := 4) sc_tree_wo.nd rfl (Or.inl rfl)) (fun _ _ _ _ _ => pts_one (pt_cmpR op_ne (pe_fld (pv 4) rfl) (pv 2) (nomark _))) (fun _ _ _ _ _ => pv 4)) pa_nil)))), ?_⟩
  · obtain ⟨a, W, s, h, k, i, rfl, _⟩ := h
    rfl
  obtain ⟨a, W, s, h, k, i, rfl, hh, hf, hk, ht, q⟩ := h
  refine ⟨_, rfl, a, _, _, rfl, hh.ins, hF_no (by decide +kernel) (by decide +kernel), _, rfl, a, W, s, k, rfl, hh, hk, hf.good.lt k, Nat.le_trans (hf.ks k) (by decide), fun H1 p1 L e1 n1 hp1 hr1 hs1 => ?_⟩
  have hl := sec_len hf hs1
  have hl2 := held_len L
  refine ⟨p1, L, rfl, SqL.of hp1, hr1, ht.ext e1, by omega, fun H2 p2 e2 t2 n2 hp2 => ?_⟩
  have hr2 : Rows c H2 (heldL L) := fun r hr => (hr1.ext e2) r (held_mem hr)
  refine ⟨_, rfl, p2, rfl, ⟨_, SqL.of hp2⟩, fun D hD => lc_list (K := K) (a := p2) (xs := refs (heldL L)) (fun j H' => Same H2 H' ∧ H' D = some (.lst (refs (((heldL L).take j).filter fun r => r.2.id != i))))
    ⟨same_new (Same.refl H2) hD, upd_same⟩ (fun j H' _ z => z.1.seq (SqL.of hp2)) ?_ ?_⟩
  · rintro j y H' hi ⟨e4, hd⟩
    obtain ⟨r, hr3, rfl⟩ := refs_at hi
    obtain ⟨dx, t, h1, h2⟩ := (hr2.ext (extN_of_same e4)) r (List.mem_of_getElem? hr3)
    refine ⟨rfl, _, rfl, r.1, _, dx, _, _, rfl, h1, T.cl r.2, T.nNumber r.2, dF_number t r.2, _, rfl, rfl, _, rfl, ?_⟩
    rw [dec_nat, take_snoc hr3, List.filter_append, List.filter_cons]
    have en : (r.2.id != i) = !(r.2.id == i) := rfl
    rw [en]
    cases hb : (r.2.id == i) with
    | true =>
      refine iteF ⟨e4, ?_⟩
      rw [hd]
      simp
    | false =>
      refine iteT ⟨_, rfl, _, hd, refs_filter_len _ (by omega), same_write e4 hD, ?_⟩
      rw [upd_same]
      unfold refs
      rw [List.map_append]
      rfl
  · rintro H' ⟨e4, hd⟩
    rw [refs_take] at hd
    have hl3 := List.length_filter_le (fun r : Row => r.2.id != i) (heldL L)
    refine ⟨D, (heldL L).filter fun r => r.2.id != i, rfl, SqL.of hd, fun r hr => (hr2.ext (extN_of_same e4)) r (List.mem_filter.mp hr).1, fun r hr => held_move r (List.mem_filter.mp hr).1, by omega, fun H3 p3 e3 n3 ht3 => ?_⟩
    rw [would_is, hs1, ← hf.good.desk] at ht3
    have e13 : ExtN H H' := ((extN_of_same e1).trans e2).trans (extN_of_same e4)
    exact q H3 p3 (e13.trans (extN_of_same e3)) ((t2.ext e4).ext e3) (NewN.of e13 n3) ht3
/-! ### outcomes_at -/
def outFn (l : List Sq28.Deed) (n : Nat) : Option Nat := ((Sq28.outcomes [] l).find? fun x => x.1.id == n).map fun x => x.2
def OutsAt (H : Hp) (p : Addr) (g : Nat → Option Nat) (m : Nat) : Prop := ∃ kvs : List (Key × V), H p = some (.dK kvs) ∧ kvs.length ≤ m ∧ ∀ n : Nat, valV kvs (Sum.inl (n : Int)) = (g n).map I
theorem outcomes_append : ∀ (l : List Sq28.Deed) (t : Sq28.Tree) (d : Sq28.Deed), Sq28.outcomes t (l ++ [d]) = Sq28.outcomes t l ++ [(d, Sq28.outcome (l.foldl Sq28.done t) d)]
  | [], _, _ => rfl
  | e :: l, t, d => by
    show (e, Sq28.outcome t e) :: Sq28.outcomes (Sq28.done t e) (l ++ [d]) = (e, Sq28.outcome t e) :: Sq28.outcomes (Sq28.done t e) l ++ _
    rw [outcomes_append l (Sq28.done t e) d]
    rfl
theorem outFn_snoc {l : List Sq28.Deed} {d : Sq28.Deed} (hn : ∀ e ∈ l, e.id ≠ d.id) (n : Nat) : outFn (l ++ [d]) n = if n = d.id then some (Sq28.outcome (Sq28.treeOf l) d) else outFn l n := by
  unfold outFn
  rw [outcomes_append, List.find?_append]
  by_cases h : n = d.id
  · rw [if_pos h, outcomes_ids l [] n (fun e he z => hn e he (z.trans h))]
    show Option.map _ (Option.or none (List.find? _ [(d, _)])) = _
    rw [Option.none_or, List.find?_cons]
    have : (d.id == n) = true := by simp [h]
    show Option.map _ (match (d.id == n) with | true => some (d, Sq28.outcome (Sq28.treeOf l) d) | false => _) = _
    rw [this]
    rfl
  · rw [if_neg h]
    have : (d.id == n) = false := by simp; exact fun z => h z.symm
    have e : List.find? (fun x : Sq28.Deed × Nat => x.1.id == n) [(d, Sq28.outcome (List.foldl Sq28.done [] l) d)] = none := by
      rw [List.find?_cons]
      show (match (d.id == n) with | true => _ | false => _) = _
      rw [this]
      rfl
    rw [e, Option.or_none]
def spOutcomes (c : Cs) (T : List (Addr × Str)) : Sp := fun vs H Q _ => ∃ (a : Addr) (W : Hw) (s : S) (h : House) (k : Nat), vs = [.ref a, I k] ∧ HouseAt c H a W s ∧ Fine s h ∧ k < s.known.length ∧ Tabs T H ∧
  ∀ (H' : Hp) (p : Addr), ExtN H H' → Tabs T H' → NewN H p → OutsAt H' p (outFn (Sq31.live (h.desk k))) 900 → Q (.ref p) H'
theorem sc_outcomes : FnScope ["self", "desk", "tree", "outcomes", "move"] ["self", "desk"] (defScope (hs 9)) := ⟨rfl, rfl, rfl, by decide +kernel, rfl, by decide +kernel, by decide +kernel⟩
theorem ids_take {L : List Row} (hn : ((seconds L).map Deed.id).Nodup) {i : Nat} {r : Row} (hr : L[i]? = some r) : ∀ e ∈ movedL (L.take i), e.id ≠ r.2.id := fun e he z => by
  unfold movedL at he
  obtain ⟨d, hd, hde⟩ := List.mem_filterMap.mp he
  have h1 := (moved_id hde).1
  have e1 : seconds L = seconds (L.take i) ++ r.2 :: seconds (L.drop (i + 1)) := by
    have hlt := (List.getElem?_eq_some_iff.mp hr)
    have e2 : L = L.take i ++ r :: L.drop (i + 1) := by
      rw [← hlt.2, ← List.drop_eq_getElem_cons hlt.1, List.take_append_drop]
    have : seconds L = seconds (L.take i ++ r :: L.drop (i + 1)) := congrArg seconds e2
    rw [this]
    unfold seconds
    rw [List.map_append]
    rfl
  rw [e1, List.map_append, List.nodup_append] at hn
  exact hn.2.2 d.id (List.mem_map.mpr ⟨d, hd, rfl⟩) r.2.id (by rw [List.map_cons]; exact List.mem_cons_self) (by rw [← h1, z])
theorem held_ids {s : S} {h : House} (g : Good s h) {L : List Row} {k : Nat} (e : seconds L = s.kd k) : ((seconds (heldL L)).map Deed.id).Nodup := by
  have h1 := ids_nodup g k
  rw [g.desk] at h1
  unfold heldL
  rw [filter_seconds (sortL L) (fun d => d.isMove && heldIn (seconds (sortL L)) d.id), seconds_sort, e]
  exact h1.sublist (List.filter_sublist.map _)
theorem ok_outcomes {f : Addr} {fd : FuncData} (F : L2.Fun K "outcomes_at" "House.outcomes_at" (hs 9) f fd) (T : Txt K mg c) (mK : C8.Met P w K mg base 1 c.H "known_deeds" (spKnown K c) []) (cM : C8.Cal P w K mg base 3 "moves_that_hold" (spMoves K c Tb) []) (cD : C8.Cal P w K mg base 2 "do_move" (spDoMove c) []) :
    FnOk P w K mg base L2.CX0 4 f fd ["self", "desk"] (spOutcomes c Tb) := by
  refine F.ok sc_outcomes (fun vs H Q E h => ?_) fun cdv A outer s H vs Q E hr h => ⟨_, pss_cons (ps_set (i := 2) sc_outcomes.nd rfl (.inl rfl) pe_dnewK) (pss_cons (ps_set (i := 3) sc_outcomes.nd rfl (.inl rfl) pe_dnewK)
    (pss_cons (ps_for PassesOwn.never rfl (pi_list (C8.pe_c cM hr (Nat.le_refl _) rfl (pa_cons (C8.pe_mt mK hr (by decide) (pv 0) (pa_cons (pv 1) pa_nil)) pa_nil))) (pg_name (i := 4) sc_outcomes.nd rfl (.inl rfl))
      (pss_one (ps_dput (hu_of hr) (pv 3) (pe_fld (pv 4) rfl) (C8.pe_c cD hr (by decide) rfl (pa_cons (pv 2) (pa_cons (pv 4) pa_nil))) rfl)))
    (pss_one (ps_ret (pv 3))))), ?_⟩
  · obtain ⟨a, W, s, h, k, rfl, _⟩ := h
    rfl
  obtain ⟨a, W, s, h, k, rfl, hh, hf, hk, ht, q⟩ := h
  intro t nt o no
  have eto : t ≠ o := fun z => by rw [← z, upd_same] at no; cases no
  have e0 : Same H (upd H t (.dK [])) := same_new (Same.refl H) nt
  have e0' : Same H (upd (upd H t (.dK [])) o (.dK [])) := same_new e0 no
  have nto : NewN H o := NewN.of (extN_of_same e0) no
  have nnt : NewN H t := NewN.none nt
  have t0 : Tabs Tb (upd (upd H t (.dK [])) o (.dK [])) := ht.ext e0'
  have ht0 : upd (upd H t (.dK [])) o (.dK []) t = some (.dK []) := by rw [upd_ne eto, upd_same]
  generalize hG : upd (upd H t (.dK [])) o (.dK []) = G at *
  have ho0 : G o = some (.dK []) := by rw [← hG]; exact upd_same
  have hh0 : HouseAt c G a W s := hh.ext (extN_of_same e0')
  refine ⟨_, rfl, a, _, _, rfl, hh0.ins, hF_no (by decide +kernel) (by decide +kernel), _, rfl, a, W, s, k, rfl, hh0, hk, hf.good.lt k, Nat.le_trans (hf.ks k) (by decide), fun H1 p1 L e1 n1 hp1 hr1 hs1 => ?_⟩
  have hl := sec_len hf hs1
  have hl2 := held_len L
  refine ⟨p1, L, rfl, SqL.of hp1, hr1, t0.ext e1, by omega, fun H2 p2 e2 t2 n2 hp2 => ?_⟩
  have e12 : ExtN G H2 := (extN_of_same e1).trans e2
  have hr2 : Rows c H2 (heldL L) := fun r hr => (hr1.ext e2) r (held_mem hr)
  have ht2 : H2 t = some (.dK []) := e12 _ _ ht0 notTbl_dK
  have ho2 : H2 o = some (.dK []) := e12 _ _ ho0 notTbl_dK
  have hids := held_ids hf.good hs1
  have keepL : ∀ {H' : Hp}, (∀ b u, H2 b = some u → b ≠ t → b ≠ o → H' b = some u) → H' p2 = some (.lst (refs (heldL L))) := fun hx => hx _ _ hp2 (fun z => by rw [z, ht2] at hp2; cases hp2) (fun z => by rw [z, ho2] at hp2; cases hp2)
  refine ⟨p2, rfl, ⟨_, SqL.of hp2⟩, for_list (K := K) (a := p2) (xs := refs (heldL L)) (fun i σ H' => ∃ v : Option V, σ = [some (.ref a), some (I k), some (.ref t), some (.ref o), v] ∧ (∀ b u, H2 b = some u → b ≠ t → b ≠ o → H' b = some u) ∧
      TreeAt H' t (Sq28.treeOf (movedL ((heldL L).take i))) i ∧ OutsAt H' o (outFn (movedL ((heldL L).take i))) i)
    ⟨none, rfl, fun b u z _ _ => z, ⟨[], ht2, Nat.le_refl _, fun n => rfl, KeysN.nil⟩, ⟨[], ho2, Nat.le_refl _, fun n => rfl⟩⟩ (fun i σ H' _ ⟨_, _, z, _⟩ => SqL.of (keepL z)) ?_ ?_⟩
  · rintro i y σ H' hi ⟨v, rfl, hx, htr, hou⟩
    obtain ⟨r, hr3, rfl⟩ := refs_at hi
    have hmem := List.mem_of_getElem? hr3
    have ilt : i < (heldL L).length := (List.getElem?_eq_some_iff.mp hr3).1
    obtain ⟨x, u, lb, hact⟩ := isMove_act (held_move r hmem)
    have deed : ∀ {H' : Hp}, (∀ b u, H2 b = some u → b ≠ t → b ≠ o → H' b = some u) → DeedAt c H' r.1 r.2 := fun hx => by
      obtain ⟨dx, tt, h1, h2⟩ := hr2 r hmem
      exact ⟨dx, tt, hx _ _ h1 (fun z => by rw [z, ht2] at h1; cases h1) (fun z => by rw [z, ho2] at h1; cases h1), hx _ _ h2 (fun z => by rw [z, ht2] at h2; cases h2) (fun z => by rw [z, ho2] at h2; cases h2)⟩
    have mv : movedL ((heldL L).take (i + 1)) = movedL ((heldL L).take i) ++ [md r.2 x u lb] := by
      unfold movedL seconds
      rw [take_snoc hr3, List.map_append, List.filterMap_append]
      show _ ++ List.filterMap _ [r.2] = _
      rw [List.filterMap_cons, moved_act hact]
      rfl
    refine ⟨_, rfl, _, rfl, t, r.1, r.2, x, u, lb, _, i, rfl, deed hx, hact, htr, by omega, wf_treeOf _, fun H3 e3 htr3 => ?_⟩
    obtain ⟨kvs, hk1, hk2, hk3⟩ := hou
    have hk13 : H3 o = some (.dK kvs) := e3 _ _ hk1 eto.symm
    have hx3 : ∀ b u, H2 b = some u → b ≠ t → b ≠ o → H3 b = some u := fun b u h1 h2 h3 => e3 _ _ (hx b u h1 h2 h3) h2
    obtain ⟨dx, tt, h1, h2⟩ := deed hx3
    refine ⟨_, rfl, _, rfl, r.1, _, dx, _, _, rfl, h1, T.cl r.2, T.nNumber r.2, dF_number tt r.2, o, _, rfl, DPut.k (k := Sum.inl (r.2.id : Int)) hk13 (small1000 (by omega)), ?_⟩
    refine ⟨some (.ref r.1), rfl, fun b u h1 h2 h3 => by rw [upd_ne h3]; exact hx3 b u h1 h2 h3, ?_, _, upd_same, ?_, fun n => ?_⟩
    · rw [mv]
      have e5 : Sq28.treeOf (movedL ((heldL L).take i) ++ [md r.2 x u lb]) = Sq28.done (Sq28.treeOf (movedL ((heldL L).take i))) (md r.2 x u lb) := by
        unfold Sq28.treeOf
        rw [List.foldl_append]
        rfl
      rw [e5]
      refine sq_tree htr3 fun q o' hq _ z => ?_
      rw [upd_ne]
      · exact hq
      · rintro rfl
        rcases z with z | ⟨xs, z⟩
        · exact eto z.symm
        · rw [hk13, z] at hq; cases hq
    · have := putK_len kvs (Sum.inl (r.2.id : Int)) (I (Sq28.outcome (Sq28.treeOf (movedL ((heldL L).take i))) (md r.2 x u lb)))
      omega
    · rw [valV_put, mv, outFn_snoc (ids_take hids hr3)]
      show _ = Option.map I (if n = r.2.id then _ else _)
      by_cases hn : n = r.2.id
      · rw [if_pos (by rw [hn]), if_pos hn]
        rfl
      · rw [if_neg (fun z => hn (by injection z with z; exact Int.ofNat.inj z)), if_neg hn]
        exact hk3 n
  · rintro σ H' ⟨v, rfl, hx, htr, hou⟩
    rw [refs_take, held_live, hs1, ← hf.good.desk] at hou
    obtain ⟨kvs, hk1, hk2, hk3⟩ := hou
    have fin : ExtN H H' := fun b u hb hu => hx b u (e12 _ _ (e0' _ _ hb) hu) (nnt.ne hb hu) (nto.ne hb hu)
    have tfin : Tabs Tb H' := fun z hz => by
      obtain ⟨ps, a1, a2, a3⟩ := t2 z hz
      refine ⟨ps, hx _ _ a1 (fun e => by rw [e, ht2] at a1; cases a1) (fun e => by rw [e, ho2] at a1; cases a1), a2, fun pos cv hc => ?_⟩
      obtain ⟨cc, x1, x2⟩ := a3 pos cv hc
      exact ⟨cc, x1, hx _ _ x2 (fun e => by rw [e, ht2] at x2; exact dK_code _ _ (Option.some.inj x2)) (fun e => by rw [e, ho2] at x2; exact dK_code _ _ (Option.some.inj x2))⟩
    refine ⟨_, rfl, q H' o fin tfin nto ⟨kvs, hk1, ?_, hk3⟩⟩
    have : (refs (heldL L)).length = (heldL L).length := by unfold refs; rw [List.length_map]
    omega
end
end Hb
end

section
set_option Elab.async false
set_option linter.all false
set_option maxRecDepth 100000
set_option maxHeartbeats 2500000
namespace Hb
open L2 PySem PySem.Spec PyProof.Rows LamX
open Sq31 (Deed Act House)

/-! ### knows_alike -/
theorem same_set {l m : List Nat} (hl : l.Nodup) (hm : m.Nodup) : (l.length == m.length && l.all fun n => decide (n ∈ m)) = true ↔ ∀ i, i ∈ l ↔ i ∈ m := by
  rw [Bool.and_eq_true, List.all_eq_true]
  constructor
  · rintro ⟨h1, h2⟩ i
    have h1 : l.length = m.length := by simpa using h1
    have sub : ∀ x ∈ l, x ∈ m := fun x hx => of_decide_eq_true (h2 x hx)
    refine ⟨sub i, fun hi => Classical.byContradiction fun z => ?_⟩
    have := nodup_le (l := l) (m := m.erase i) hl fun x hx => (List.mem_erase_of_ne (fun e => z (by rw [← e]; exact hx))).mpr (sub x hx)
    rw [List.length_erase_of_mem hi] at this
    have hp := List.length_pos_of_mem hi
    omega
  · intro h
    refine ⟨?_, fun x hx => decide_eq_true ((h x).mp hx)⟩
    have := (nodup_perm hl hm h).length_eq
    simpa using this
theorem trues_hit (l m : List Nat) : (trues l).all (hitK (fun _ => PyData.bool true) (trues m)) = l.all fun n => decide (n ∈ m) := by
  unfold trues
  rw [List.all_map]
  congr 1
  funext n
  show hitK _ (trues m) (Sum.inl (n : Int), V.bl true) = _
  unfold hitK
  show (match valV (trues m) (Sum.inl (n : Int)) with | none => false | some u => _) = _
  rw [trues_val]
  by_cases h : n ∈ m
  · rw [if_pos h, decide_eq_true h]
    rfl
  · rw [if_neg h, decide_eq_false h]
section
variable {P : Program} {w : World} {K : PySem.W.Frag} {mg : Str → Option Value} {base : Heap} {c : Cs} {Tb : List (Addr × Str)}
theorem ds_ix {H : Hp} {a : Addr} {W : Hw} {s : S} {k : Nat} {b : Addr} (hb : W.ds[k]? = some b) : (W.ds.map V.ref)[k]? = some (.ref b) := by
  rw [List.getElem?_map, hb]
  rfl
def spAlike (c : Cs) : Sp := fun vs H Q _ => ∃ (a : Addr) (W : Hw) (s : S) (h : House) (k j : Nat), vs = [.ref a, I k, I j] ∧ HouseAt c H a W s ∧ Fine s h ∧ k < s.known.length ∧ j < s.known.length ∧ Q (.bl (decide (h.desk k = h.desk j))) H
theorem sc_alike : FnScope ["self", "desk", "other"] ["self", "desk", "other"] (defScope (hs 10)) := ⟨rfl, rfl, rfl, by decide +kernel, rfl, by decide +kernel, by decide +kernel⟩
theorem ok_alike {f : Addr} {fd : FuncData} {k : Nat} (F : L2.Fun K "knows_alike" "House.knows_alike" (hs 10) f fd) (TH : TxtH K mg c) : FnOk P w K mg base L2.CX0 (k + 1) f fd ["self", "desk", "other"] (spAlike c) := by
  refine F.ok sc_alike (fun vs H Q E h => ?_) fun cdv A outer s H vs Q E hr h => ⟨_, pss_one (ps_ret (pe_cmpR (op_eqK (room70 hr)) (pe_ix ix_list (pe_fld (pv 0) rfl) (pv 1) (fun _ _ => rfl)) (pe_ix ix_list (pe_fld (pv 0) rfl) (pv 2) (fun _ _ => rfl)) (nomark _))), ?_⟩
  · obtain ⟨a, W, s, h, k, j, rfl, _⟩ := h
    rfl
  obtain ⟨a, W, s, h, k, j, rfl, hh, hf, hk, hj, q⟩ := h
  obtain ⟨b, hb, hd⟩ := hh.at hk
  obtain ⟨b2, hb2, hd2⟩ := hh.at hj
  have dp : ∀ l : List Nat, ∀ p ∈ trues l, Dp K H p.2 (PyData.bool true) ∧ SeqAt.shaped (PyData.bool true) = true := fun l p hp => by
    obtain ⟨n, _, rfl⟩ := List.mem_map.mp hp
    exact ⟨.bl true, rfl⟩
  refine ⟨_, rfl, a, c.H, W.dx, _, _, rfl, hh.ins, TH.cl, TH.nK, hF_known W, _, rfl, _, _, _, _, rfl, rfl, SqL.of hh.known, atI_nat (ds_ix (H := H) (a := a) (s := s) hb), _, rfl, a, c.H, W.dx, _, _, rfl, hh.ins, TH.cl, TH.nK, hF_known W, _, rfl, _, _, _, _, rfl, rfl, SqL.of hh.known, atI_nat (ds_ix (H := H) (a := a) (s := s) hb2),
    b, b2, _, _, fun _ => PyData.bool true, rfl, rfl, hd, hd2, dp _, dp _, ?_⟩
  rw [trues_len, trues_len, trues_hit]
  have e : ((s.ks k).length == (s.ks j).length && (s.ks k).all fun n => decide (n ∈ s.ks j)) = decide (h.desk k = h.desk j) := by
    rw [Bool.eq_iff_iff, decide_eq_true_iff, same_set (hf.good.nodup k) (hf.good.nodup j)]
    exact (desk_eq hf.good k j).symm
  rw [e]
  exact q
/-! ### learn -/
def addAll (l ns : List Nat) : List Nat := ns.foldl addN l
theorem addAll_mem : ∀ (ns l : List Nat) (i : Nat), i ∈ addAll l ns ↔ i ∈ l ∨ i ∈ ns
  | [], l, i => by simp [addAll]
  | n :: ns, l, i => by
    have ih := addAll_mem ns (addN l n) i
    show i ∈ addAll (addN l n) ns ↔ _
    rw [ih, List.mem_cons]
    have : i ∈ addN l n ↔ i ∈ l ∨ i = n := by
      unfold addN
      split
      · rename_i h
        exact ⟨.inl, fun z => z.elim id fun e => by rw [e]; exact h⟩
      · rw [List.mem_append, List.mem_singleton]
    rw [this, or_assoc]
theorem addAll_nodup : ∀ (ns : List Nat) {l : List Nat}, l.Nodup → (addAll l ns).Nodup
  | [], _, h => h
  | n :: ns, l, h => by
    refine addAll_nodup ns (l := addN l n) ?_
    unfold addN
    split
    · exact h
    · rename_i hn
      rw [List.nodup_append]
      refine ⟨h, by simp, fun x hx y hy z => hn ?_⟩
      rw [← List.mem_singleton.mp hy, ← z]
      exact hx
theorem addAll_len : ∀ (ns l : List Nat), l.length ≤ (addAll l ns).length ∧ (addAll l ns).length ≤ l.length + ns.length
  | [], l => ⟨Nat.le_refl _, Nat.le_refl _⟩
  | n :: ns, l => by
    obtain ⟨h1, h2⟩ := addAll_len ns (addN l n)
    have h3 := addN_len l n
    have h4 : l.length ≤ (addN l n).length := by unfold addN; split <;> simp
    refine ⟨Nat.le_trans h4 h1, Nat.le_trans h2 ?_⟩
    rw [List.length_cons]
    omega
theorem addAll_in : ∀ (ns l : List Nat), (∀ n ∈ ns, n ∈ l) → addAll l ns = l
  | [], _, _ => rfl
  | n :: ns, l, h => by
    show addAll (addN l n) ns = l
    have : addN l n = l := if_pos (h n List.mem_cons_self)
    rw [this]
    exact addAll_in ns l fun m hm => h m (List.mem_cons_of_mem _ hm)
theorem set_ks {s : S} {k : Nat} (hk : k < s.known.length) : s.known.set k (s.ks k) = s.known := by
  refine (List.ext_getElem? fun j => ?_)
  rw [List.getElem?_set]
  by_cases hj : k = j
  · subst hj
    rw [if_pos rfl, if_pos hk]
    unfold S.ks
    rw [List.getElem?_eq_getElem hk]
    rfl
  · rw [if_neg hj]
def spLearn (c : Cs) (T : List (Addr × Str)) : Sp := fun vs H Q _ => ∃ (a : Addr) (W : Hw) (s : S) (k : Nat) (l : Addr) (ns : List Nat), vs = [.ref a, I k, .ref l] ∧ HouseAt c H a W s ∧ k < s.known.length ∧ H l = some (.lst (ns.map I)) ∧ (s.ks k).length + ns.length ≤ 900 ∧ Tabs T H ∧
  ∀ H' : Hp, HouseAt c H' a W ⟨s.done, s.known.set k (addAll (s.ks k) ns)⟩ → HStep a H W H' W → Tabs T H' → Q (I ((addAll (s.ks k) ns).length - (s.ks k).length)) H'
theorem sc_learn : FnScope ["self", "desk", "numbers", "before", "number"] ["self", "desk", "numbers"] (defScope (hs 11)) := ⟨rfl, rfl, rfl, by decide +kernel, rfl, by decide +kernel, by decide +kernel⟩
theorem ints_at {ns : List Nat} {i : Nat} {y : V} (h : (ns.map I)[i]? = some y) : ∃ n, ns[i]? = some n ∧ y = I n := by
  rw [List.getElem?_map] at h
  cases q : ns[i]? with
  | none => rw [q] at h; cases h
  | some n => rw [q] at h; exact ⟨n, rfl, (Option.some.inj h).symm⟩
theorem ok_learn {f : Addr} {fd : FuncData} {k : Nat} (F : L2.Fun K "learn" "House.learn" (hs 11) f fd) (T : Txt K mg c) (TH : TxtH K mg c) : FnOk P w K mg base L2.CX0 (k + 1) f fd ["self", "desk", "numbers"] (spLearn c Tb) := by
  refine F.ok sc_learn (fun vs H Q E h => ?_) fun cdv A outer s H vs Q E hr h => ⟨_, pss_cons (ps_set (i := 3) sc_learn.nd rfl (.inl rfl) (pe_callB call_lenD (by rfl) T.bLen PySem.boot_len (pa_cons (pe_ix ix_list (pe_fld (pv 0) rfl) (pv 1) (fun _ _ => rfl)) pa_nil)))
    (pss_cons (ps_for PassesOwn.never rfl (pi_list (pv 2)) (pg_name (i := 4) sc_learn.nd rfl (.inl rfl)) (pss_one (ps_dput (hu_of hr) (pe_ix ix_list (pe_fld (pv 0) rfl) (pv 1) (fun _ _ => rfl)) (pv 4) pe_bl rfl)))
    (pss_one (ps_ret (pe_op op_sub (pe_callB call_lenD (by rfl) T.bLen PySem.boot_len (pa_cons (pe_ix ix_list (pe_fld (pv 0) rfl) (pv 1) (fun _ _ => rfl)) pa_nil)) (pv 3))))), ?_⟩
  · obtain ⟨a, W, s, k, l, ns, rfl, _⟩ := h
    rfl
  obtain ⟨a, W, s, k, l, ns, rfl, hh, hk, hl, hz, ht, q⟩ := h
  obtain ⟨b, hb, hd⟩ := hh.at hk
  have hix := ds_ix (H := H) (a := a) (s := s) hb
  have hlb : l ≠ b := fun z => by rw [z, hd] at hl; cases hl
  have ks2 : ∀ m : List Nat, (S.mk s.done (s.known.set k m)).ks k = m := fun m => by rw [ks_set s k m hk, if_pos rfl]
  refine ⟨_, rfl, a, c.H, W.dx, _, _, rfl, hh.ins, TH.cl, TH.nK, hF_known W, _, rfl, _, _, _, _, rfl, rfl, SqL.of hh.known, atI_nat hix, b, _, rfl, hd, _, rfl, l, rfl, ⟨_, SqL.of hl⟩,
    for_list (K := K) (a := l) (xs := ns.map I) (fun i σ H' => ∃ v : Option V, σ = [some (.ref a), some (I k), some (.ref l), some (I (s.ks k).length), v] ∧ HouseAt c H' a W ⟨s.done, s.known.set k (addAll (s.ks k) (ns.take i))⟩ ∧ HStep a H W H' W ∧ Tabs Tb H' ∧ H' l = some (.lst (ns.map I)))
    ⟨none, by rw [trues_len]; rfl, ?_, HStep.refl a H W, ht, hl⟩ (fun i σ H' _ ⟨_, _, _, _, _, z⟩ => SqL.of z) ?_ ?_⟩
  · show HouseAt c H a W ⟨s.done, s.known.set k (s.ks k)⟩
    rw [set_ks hk]
    exact hh
  · rintro i y σ H' hi ⟨v, rfl, hh', st, t', hl'⟩
    obtain ⟨n, hn, rfl⟩ := ints_at hi
    have hk' : k < (S.mk s.done (s.known.set k (addAll (s.ks k) (ns.take i)))).known.length := by show k < (s.known.set k _).length; rw [List.length_set]; exact hk
    obtain ⟨b', hb', hd'⟩ := hh'.at hk'
    rw [hb] at hb'
    cases hb'
    rw [ks2] at hd'
    have hsz := (addAll_len (ns.take i) (s.ks k)).2
    have hti : (ns.take i).length ≤ ns.length := by rw [List.length_take]; omega
    refine ⟨_, rfl, a, c.H, W.dx, _, _, rfl, hh'.ins, TH.cl, TH.nK, hF_known W, _, rfl, _, _, _, _, rfl, rfl, SqL.of hh'.known, atI_nat hix, _, rfl, b, _, rfl, DPut.k (k := Sum.inl (n : Int)) hd' (small1000 (by rw [trues_len]; omega)), ?_⟩
    rw [put_trues]
    have e : addN (addAll (s.ks k) (ns.take i)) n = addAll (s.ks k) (ns.take (i + 1)) := by
      unfold addAll
      rw [take_snoc hn, List.foldl_append]
      rfl
    rw [e]
    obtain ⟨g1, g2, g3⟩ := hh'.put hb hk' (addAll (s.ks k) (ns.take (i + 1)))
    rw [show (S.mk s.done (s.known.set k (addAll (s.ks k) (ns.take i)))).known.set k (addAll (s.ks k) (ns.take (i + 1))) = s.known.set k (addAll (s.ks k) (ns.take (i + 1))) from List.set_set ..] at g1
    exact ⟨some (I n), rfl, g1, st.trans g2, g3 _ t', by rw [upd_ne hlb]; exact hl'⟩
  · rintro σ H' ⟨v, rfl, hh', st, t', hl'⟩
    rw [List.length_map, List.take_of_length_le (Nat.le_refl _)] at hh'
    have hk' : k < (S.mk s.done (s.known.set k (addAll (s.ks k) ns))).known.length := by show k < (s.known.set k _).length; rw [List.length_set]; exact hk
    obtain ⟨b', hb', hd'⟩ := hh'.at hk'
    rw [hb] at hb'
    cases hb'
    rw [ks2] at hd'
    refine ⟨_, rfl, a, c.H, W.dx, _, _, rfl, hh'.ins, TH.cl, TH.nK, hF_known W, _, rfl, _, _, _, _, rfl, rfl, SqL.of hh'.known, atI_nat hix, b, _, rfl, hd', _, rfl, _, _, rfl, rfl, ?_⟩
    have fin := q H' hh' st t'
    have hle := (addAll_len ns (s.ks k)).1
    rw [trues_len]
    have e : (((addAll (s.ks k) ns).length - (s.ks k).length : Nat) : Int) = ((addAll (s.ks k) ns).length : Int) - ((s.ks k).length : Int) := by omega
    have e2 : I ((addAll (s.ks k) ns).length - (s.ks k).length) = V.int (((addAll (s.ks k) ns).length : Int) - ((s.ks k).length : Int)) := congrArg V.int e
    rw [e2] at fin
    exact fin
/-! ### share -/
def spShare (c : Cs) (T : List (Addr × Str)) : Sp := fun vs H Q _ => ∃ (a : Addr) (W : Hw) (s : S) (h : House) (k j : Nat), vs = [.ref a, I k, I j] ∧ HouseAt c H a W s ∧ Fine s h ∧ k < s.known.length ∧ j < s.known.length ∧ Tabs T H ∧
  ∀ (H' : Hp) (s' : S) (p : Addr), HouseAt c H' a W s' → Fine s' ((h.set k ((h.desk j).foldl (fun (m : List Deed) d => Sq31.learn d m) (h.desk k))).set j ((h.desk j).foldl (fun (m : List Deed) d => Sq31.learn d m) (h.desk k))) → HStep a H W H' W → Tabs T H' → NewN H p →
    s'.known.length = s.known.length → (s'.ks k).length = ((h.desk j).foldl (fun (m : List Deed) d => Sq31.learn d m) (h.desk k)).length →
    H' p = some (.lst [I (((h.desk j).foldl (fun (m : List Deed) d => Sq31.learn d m) (h.desk k)).length - (h.desk k).length), I (((h.desk j).foldl (fun (m : List Deed) d => Sq31.learn d m) (h.desk k)).length - (h.desk j).length)]) → Q (.ref p) H'
theorem sc_share : FnScope ["self", "desk", "other", "ahead"] ["self", "desk", "other"] (defScope (hs 12)) := ⟨rfl, rfl, rfl, by decide +kernel, rfl, by decide +kernel, by decide +kernel⟩
theorem trues_keys (l : List Nat) : ((trues l).map fun kv => kV kv.1) = l.map I := by
  unfold trues
  rw [List.map_map]
  rfl
theorem ok_share {f : Addr} {fd : FuncData} (F : L2.Fun K "share" "House.share" (hs 12) f fd) (TH : TxtH K mg c) (mL : C8.Met P w K mg base 1 c.H "learn" (spLearn c Tb) []) : FnOk P w K mg base L2.CX0 2 f fd ["self", "desk", "other"] (spShare c Tb) := by
  refine F.ok sc_share (fun vs H Q E h => ?_) fun cdv A outer s H vs Q E hr h => ⟨_, pss_cons (ps_set (i := 3) sc_share.nd rfl (.inl rfl) (pe_callTy (call_list_dK rfl) (by rfl) TH.bList (by decide +kernel) (pa_cons (pe_ix ix_list (pe_fld (pv 0) rfl) (pv 1) (fun _ _ => rfl)) pa_nil)))
    (pss_one (ps_ret (pe_lst (pa_cons (C8.pe_mt mL hr (Nat.le_refl _) (pv 0) (pa_cons (pv 1) (pa_cons (pe_callTy (call_list_dK rfl) (by rfl) TH.bList (by decide +kernel) (pa_cons (pe_ix ix_list (pe_fld (pv 0) rfl) (pv 2) (fun _ _ => rfl)) pa_nil)) pa_nil)))
      (pa_cons (C8.pe_mt mL hr (Nat.le_refl _) (pv 0) (pa_cons (pv 2) (pa_cons (pv 3) pa_nil))) pa_nil))))), ?_⟩
  · obtain ⟨a, W, s, h, k, j, rfl, _⟩ := h
    rfl
  obtain ⟨a, W, s, h, k, j, rfl, hh, hf, hk, hj, ht, q⟩ := h
  obtain ⟨b, hb, hd⟩ := hh.at hk
  obtain ⟨b2, hb2, hd2⟩ := hh.at hj
  refine ⟨_, rfl, a, c.H, W.dx, _, _, rfl, hh.ins, TH.cl, TH.nK, hF_known W, _, rfl, _, _, _, _, rfl, rfl, SqL.of hh.known, atI_nat (ds_ix (H := H) (a := a) (s := s) hb), b, _, rfl, hd, fun l1 n1 => ?_⟩
  rw [trues_keys]
  have e1 := same_new (o := .lst ((s.ks k).map I)) (Same.refl H) n1
  have hh1 := hh.ext (extN_of_same e1)
  have hl1 : upd H l1 (.lst ((s.ks k).map I)) l1 = some (.lst ((s.ks k).map I)) := upd_same
  generalize upd H l1 (.lst ((s.ks k).map I)) = H1 at e1 hh1 hl1
  refine ⟨_, rfl, a, _, _, rfl, hh1.ins, hF_no (by decide +kernel) (by decide +kernel), _, rfl, _, rfl, a, c.H, W.dx, _, _, rfl, hh1.ins, TH.cl, TH.nK, hF_known W, _, rfl, _, _, _, _, rfl, rfl, SqL.of hh1.known, atI_nat (ds_ix (H := H) (a := a) (s := s) hb2), b2, _, rfl, e1 _ _ hd2, fun l2 n2 => ?_⟩
  rw [trues_keys]
  have e2 := same_new (o := .lst ((s.ks j).map I)) e1 n2
  have hh2 := hh.ext (extN_of_same e2)
  have hl12 : upd H1 l2 (.lst ((s.ks j).map I)) l1 = some (.lst ((s.ks k).map I)) := by rw [upd_ne (ne_of_none hl1 n2)]; exact hl1
  have hl2 : upd H1 l2 (.lst ((s.ks j).map I)) l2 = some (.lst ((s.ks j).map I)) := upd_same
  generalize upd H1 l2 (.lst ((s.ks j).map I)) = H2 at e2 hh2 hl12 hl2
  have z1 := hf.ks k
  have z2 := hf.ks j
  refine ⟨a, W, s, k, l2, s.ks j, rfl, hh2, hk, hl2, by omega, ht.ext e2, fun H3 hh3 st3 t3 => ?_⟩
  -- the second
  have l1out : l1 ∉ foot a W := hh.new_out (NewN.none n1)
  have hl13 : H3 l1 = some (.lst ((s.ks k).map I)) := st3.keep _ _ hl12 notTbl_lst l1out
  have hk3 : j < (S.mk s.done (s.known.set k (addAll (s.ks k) (s.ks j)))).known.length := by show j < (s.known.set k _).length; rw [List.length_set]; exact hj
  have zz := addAll_len (s.ks j) (s.ks k)
  have ksj : (S.mk s.done (s.known.set k (addAll (s.ks k) (s.ks j)))).ks j = if j = k then addAll (s.ks k) (s.ks j) else s.ks j := ks_set s k _ hk _ j
  have ksjl : ((S.mk s.done (s.known.set k (addAll (s.ks k) (s.ks j)))).ks j).length ≤ 240 := by rw [ksj]; split <;> omega
  refine ⟨_, rfl, a, _, _, rfl, hh3.ins, hF_no (by decide +kernel) (by decide +kernel), _, rfl, _, rfl, a, W, _, j, l1, s.ks k, rfl, hh3, hk3, hl13, by omega, t3, fun H4 hh4 st4 t4 => ?_⟩
  refine ⟨(by show 2 ≤ sizeLine; decide), fun p np => ?_⟩
  have sall : HStep a H W H4 W := ((HStep.same e2).trans st3).trans st4
  have e5 : Same H4 (upd H4 p (.lst [I ((addAll (s.ks k) (s.ks j)).length - (s.ks k).length), I ((addAll ((S.mk s.done (s.known.set k (addAll (s.ks k) (s.ks j)))).ks j) (s.ks k)).length - ((S.mk s.done (s.known.set k (addAll (s.ks k) (s.ks j)))).ks j).length)])) := same_new (Same.refl H4) np
  -- the mathematics
  let l := (h.desk j).foldl (fun (m : List Deed) d => Sq31.learn d m) (h.desk k)
  have g := hf.good
  have nd1 : (addAll (s.ks k) (s.ks j)).Nodup := addAll_nodup _ (g.nodup k)
  have m1 : ∀ i, i ∈ addAll (s.ks k) (s.ks j) ↔ i ∈ s.ks k ∨ i ∈ s.ks j := fun i => addAll_mem _ _ i
  have hl1' : l = sortD (pick s.done (addAll (s.ks k) (s.ks j))) := meet_is g k j nd1 m1
  have lt1 : ∀ i ∈ addAll (s.ks k) (s.ks j), i < s.done.length := fun i hi => ((m1 i).mp hi).elim (g.lt k i) (g.lt j i)
  have g1 : Good ⟨s.done, s.known.set k (addAll (s.ks k) (s.ks j))⟩ (h.set k l) := g.learned hk lt1 nd1 (fun i hi => (m1 i).mpr (.inl hi)) hl1'
  have mj : ∀ i, i ∈ (S.mk s.done (s.known.set k (addAll (s.ks k) (s.ks j)))).ks j ↔ (if j = k then i ∈ addAll (s.ks k) (s.ks j) else i ∈ s.ks j) := fun i => by rw [ksj]; split <;> rfl
  generalize hS : (S.mk s.done (s.known.set k (addAll (s.ks k) (s.ks j)))).ks j = kj at *
  have nd2 : (addAll kj (s.ks k)).Nodup := addAll_nodup _ (by rw [← hS]; exact g1.nodup j)
  have m2 : ∀ i, i ∈ addAll kj (s.ks k) ↔ i ∈ s.ks k ∨ i ∈ s.ks j := fun i => by
    rw [addAll_mem, mj]
    split
    · rename_i e
      rw [m1]
      constructor
      · rintro (z | z)
        · exact z
        · exact .inl z
      · exact .inl
    · exact or_comm
  have hl2' : l = sortD (pick s.done (addAll kj (s.ks k))) := meet_is g k j nd2 m2
  have lt2 : ∀ i ∈ addAll kj (s.ks k), i < s.done.length := fun i hi => ((m2 i).mp hi).elim (g.lt k i) (g.lt j i)
  have g2 : Good ⟨s.done, (s.known.set k (addAll (s.ks k) (s.ks j))).set j (addAll kj (s.ks k))⟩ ((h.set k l).set j l) := g1.learned (l := addAll kj (s.ks k)) (m := l) hk3 lt2 nd2 (fun i hi => by rw [hS] at hi; rw [addAll_mem]; exact .inl hi) hl2'
  have len1 : l.length = (addAll (s.ks k) (s.ks j)).length := by rw [hl1', (perm_sort _).length_eq, pick_len lt1]
  have len2 : l.length = (addAll kj (s.ks k)).length := by rw [hl2', (perm_sort _).length_eq, pick_len lt2]
  have dk : (h.desk k).length = (s.ks k).length := desk_len g k
  have dj : (h.desk j).length = (s.ks j).length := desk_len g j
  have second : (addAll kj (s.ks k)).length - kj.length = l.length - (h.desk j).length := by
    rw [← len2, dj]
    by_cases e : j = k
    · have : kj = addAll (s.ks k) (s.ks j) := by rw [ksj, if_pos e]
      have h2 : addAll (s.ks k) (s.ks j) = s.ks k := addAll_in _ _ fun n hn => by rw [e] at hn; exact hn
      rw [this, h2, e]
    · have : kj = s.ks j := by rw [ksj, if_neg e]
      rw [this]
  refine q _ ⟨s.done, (s.known.set k (addAll (s.ks k) (s.ks j))).set j (addAll kj (s.ks k))⟩ p (hh4.ext (extN_of_same e5)) ⟨g2, hf.full, ?_⟩ (sall.trans (HStep.same e5)) (t4.ext e5) (sall.new (NewN.none np) (hh4.new_out (NewN.none np))) ?_ ?_ ?_
  · show ((s.known.set k _).set j _).length ≤ 8
    rw [List.length_set, List.length_set]
    exact hf.few
  · show ((s.known.set k _).set j _).length = _
    rw [List.length_set, List.length_set]
  · have e6 : (S.mk s.done ((s.known.set k (addAll (s.ks k) (s.ks j))).set j (addAll kj (s.ks k)))).ks k = if k = j then addAll kj (s.ks k) else addAll (s.ks k) (s.ks j) := by
      have := ks_set (S.mk s.done (s.known.set k (addAll (s.ks k) (s.ks j)))) j (addAll kj (s.ks k)) hk3 s.done k
      rw [this]
      split
      · rfl
      · rw [ks_set s k _ hk, if_pos rfl]
    rw [e6]
    split
    · exact len2.symm
    · exact len1.symm
  · rw [upd_same]
    rw [second, ← len1, ← dk]
end
end Hb
end

section
set_option Elab.async false
set_option linter.all false
set_option maxRecDepth 100000
set_option maxHeartbeats 2500000
namespace Hb
open L2 PySem PySem.Spec PyProof.Rows LamX
open Sq31 (Deed House)
theorem pf_here {f : Str} {v x : V} {more : List (Str × V)} : putF f v ((f, x) :: more) = (f, v) :: more := by simp [putF]
theorem pf_past {f g : Str} {v x : V} {more : List (Str × V)} (h : ¬ g = f) : putF f v ((g, x) :: more) = (g, x) :: putF f v more := by simp [putF, h]
section
variable {P : Program} {w : World} {K : PySem.W.Frag} {mg : Str → Option Value} {base : Heap} {c : Cs} {Tb : List (Addr × Str)}
/-! ### the makers of deeds -/
abbrev s_move_init : Stmt := inClass (top 1) 0
abbrev s_turn_init : Stmt := inClass (top 2) 0
def mF (n : Nat) (t : Addr) (x u v : Nat) : List (Str × V) := [("number", I n), ("stamp", .ref t), ("thing", I x), ("under", I u), ("label", I v)]
def tF (n : Nat) (t : Addr) (i : Nat) (b : Bool) : List (Str × V) := [("number", I n), ("stamp", .ref t), ("target", I i), ("to_hold", .bl b)]
def spMoveInit (c : Cs) : Sp := fun vs H Q _ => ∃ (p dx : Addr) (n : Nat) (t : Addr) (x u v : Nat), vs = [.ref p, I n, .ref t, I x, I u, I v] ∧ H p = some (.ins c.M dx []) ∧
  ∀ H' : Hp, H' p = some (.ins c.M dx (mF n t x u v)) → (∀ b o, H b = some o → b ≠ p → H' b = some o) → Q .non H'
def spTurnInit (c : Cs) : Sp := fun vs H Q _ => ∃ (p dx : Addr) (n : Nat) (t : Addr) (i : Nat) (b : Bool), vs = [.ref p, I n, .ref t, I i, .bl b] ∧ H p = some (.ins c.T dx []) ∧
  ∀ H' : Hp, H' p = some (.ins c.T dx (tF n t i b)) → (∀ b o, H b = some o → b ≠ p → H' b = some o) → Q .non H'
theorem sc_move_init : FnScope ["self", "number", "stamp", "thing", "under", "label"] ["self", "number", "stamp", "thing", "under", "label"] (defScope s_move_init) := ⟨rfl, rfl, rfl, by decide +kernel, rfl, by decide +kernel, by decide +kernel⟩
theorem sc_turn_init : FnScope ["self", "number", "stamp", "target", "to_hold"] ["self", "number", "stamp", "target", "to_hold"] (defScope s_turn_init) := ⟨rfl, rfl, rfl, by decide +kernel, rfl, by decide +kernel, by decide +kernel⟩
theorem upd_keep {H H1 : Hp} {p : Addr} {o : HO} (e : ∀ b u, H b = some u → b ≠ p → H1 b = some u) : ∀ b u, H b = some u → b ≠ p → upd H1 p o b = some u := fun b u h n => by
  rw [upd_ne n]
  exact e b u h n
theorem ok_move_init {f : Addr} {fd : FuncData} {k : Nat} (F : L2.Fun K "__init__" "Move.__init__" s_move_init f fd) (T : Txt K mg c) : FnOk P w K mg base L2.CX0 (k + 1) f fd ["self", "number", "stamp", "thing", "under", "label"] (spMoveInit c) := by
  refine F.ok sc_move_init (fun vs H Q E h => ?_) fun cdv A outer s H vs Q E hr h => ⟨_, pss_cons (ps_fld (pv 0) (pv 1) rfl) (pss_cons (ps_fld (pv 0) (pv 2) rfl) (pss_cons (ps_fld (pv 0) (pv 3) rfl) (pss_cons (ps_fld (pv 0) (pv 4) rfl) (pss_one (ps_fld (pv 0) (pv 5) rfl))))), ?_⟩
  · obtain ⟨p, dx, n, t, x, u, v, rfl, _⟩ := h
    rfl
  obtain ⟨p, dx, n, t, x, u, v, rfl, hp, q⟩ := h
  refine ⟨_, rfl, _, rfl, p, c.M, dx, _, rfl, hp, T.clM, T.nMn, (by show 0 < 1000; decide), ?_⟩
  refine ⟨_, rfl, _, rfl, p, c.M, dx, _, rfl, upd_same, T.clM, T.nMs, (by show 1 < 1000; decide), ?_⟩
  refine ⟨_, rfl, _, rfl, p, c.M, dx, _, rfl, upd_same, T.clM, T.nMt, (by show 2 < 1000; decide), ?_⟩
  refine ⟨_, rfl, _, rfl, p, c.M, dx, _, rfl, upd_same, T.clM, T.nMu, (by show 3 < 1000; decide), ?_⟩
  refine ⟨_, rfl, _, rfl, p, c.M, dx, _, rfl, upd_same, T.clM, T.nMl, (by show 4 < 1000; decide), ?_⟩
  refine q _ (upd_same.trans ?_) (upd_keep (upd_keep (upd_keep (upd_keep (upd_keep fun _ _ z _ => z)))))
  rfl
theorem ok_turn_init {f : Addr} {fd : FuncData} {k : Nat} (F : L2.Fun K "__init__" "Turn.__init__" s_turn_init f fd) (T : Txt K mg c) : FnOk P w K mg base L2.CX0 (k + 1) f fd ["self", "number", "stamp", "target", "to_hold"] (spTurnInit c) := by
  refine F.ok sc_turn_init (fun vs H Q E h => ?_) fun cdv A outer s H vs Q E hr h => ⟨_, pss_cons (ps_fld (pv 0) (pv 1) rfl) (pss_cons (ps_fld (pv 0) (pv 2) rfl) (pss_cons (ps_fld (pv 0) (pv 3) rfl) (pss_one (ps_fld (pv 0) (pv 4) rfl)))), ?_⟩
  · obtain ⟨p, dx, n, t, i, b, rfl, _⟩ := h
    rfl
  obtain ⟨p, dx, n, t, i, b, rfl, hp, q⟩ := h
  refine ⟨_, rfl, _, rfl, p, c.T, dx, _, rfl, hp, T.clT, T.nTn, (by show 0 < 1000; decide), ?_⟩
  refine ⟨_, rfl, _, rfl, p, c.T, dx, _, rfl, upd_same, T.clT, T.nTs, (by show 1 < 1000; decide), ?_⟩
  refine ⟨_, rfl, _, rfl, p, c.T, dx, _, rfl, upd_same, T.clT, T.nTt, (by show 2 < 1000; decide), ?_⟩
  refine ⟨_, rfl, _, rfl, p, c.T, dx, _, rfl, upd_same, T.clT, T.nTh, (by show 3 < 1000; decide), ?_⟩
  refine q _ (upd_same.trans ?_) (upd_keep (upd_keep (upd_keep (upd_keep fun _ _ z _ => z))))
  rfl
/-! ### keep -/
def spKeep (c : Cs) (T : List (Addr × Str)) : Sp := fun vs H Q _ => ∃ (a : Addr) (W : Hw) (s : S) (k : Nat) (p : Addr) (d : Deed), vs = [.ref a, I k, .ref p] ∧ HouseAt c H a W s ∧ DeedAt c H p d ∧ k < s.known.length ∧ s.done.length ≤ 900 ∧ (s.ks k).length ≤ 900 ∧ Tabs T H ∧
  ∀ (H' : Hp) (W' : Hw), HouseAt c H' a W' ⟨s.done ++ [d], s.known.set k (addN (s.ks k) d.id)⟩ → HStep a H W H' W' → DeedAt c H' p d → Tabs T H' → Q .non H'
theorem sc_keep : FnScope ["self", "desk", "deed"] ["self", "desk", "deed"] (defScope (hs 15)) := ⟨rfl, rfl, rfl, by decide +kernel, rfl, by decide +kernel, by decide +kernel⟩
theorem ok_keep {f : Addr} {fd : FuncData} {k : Nat} (F : L2.Fun K "keep" "House.keep" (hs 15) f fd) (T : Txt K mg c) (TH : TxtH K mg c) : FnOk P w K mg base L2.CX0 (k + 1) f fd ["self", "desk", "deed"] (spKeep c Tb) := by
  refine F.ok sc_keep (fun vs H Q E h => ?_) fun cdv A outer s H vs Q E hr h => ⟨_, pss_cons (ps_expr (pe_bm PySem.F.plainAttrs_list PySem.F.slot_list_append PySem.F.type_list_append mt_append (pe_fld (pv 0) rfl) (pa_cons (pv 2) pa_nil)))
    (pss_one (ps_dput (hu_of hr) (pe_ix ix_list (pe_fld (pv 0) rfl) (pv 1) (fun _ _ => rfl)) (pe_fld (pv 2) rfl) pe_bl rfl)), ?_⟩
  · obtain ⟨a, W, s, k, p, d, rfl, _⟩ := h
    rfl
  obtain ⟨a, W, s, k, p, d, rfl, hh, hp, hk, hz, hz2, ht, q⟩ := h
  have hL : (refs W.L).length = s.done.length := by rw [refs_len, hh.secs]
  refine ⟨_, rfl, a, c.H, W.dx, _, _, rfl, hh.ins, TH.cl, TH.nD, hF_done W, .inl ⟨rfl, _, SqL.of hh.done⟩, _, rfl, _, _, _, rfl, rfl, hh.done, small1000 (by omega), ?_⟩
  have er : refs W.L ++ [V.ref p] = refs (W.L ++ [(p, d)]) := by
    unfold refs
    rw [List.map_append]
    rfl
  rw [er]
  obtain ⟨g1, g2, g3⟩ := hh.push hp
  obtain ⟨b, hb, hd⟩ := g1.at (k := k) hk
  obtain ⟨dx, t, h1, h2⟩ := g1.rows (p, d) (List.mem_append_right _ (List.mem_singleton.mpr rfl))
  refine ⟨_, rfl, a, c.H, W.dx, _, _, rfl, g1.ins, TH.cl, TH.nK, hF_known _, _, rfl, _, _, _, _, rfl, rfl, SqL.of g1.known, atI_nat (ds_ix (H := H) (a := a) (s := s) hb), _, rfl, p, _, dx, _, _, rfl, h1, T.cl d, T.nNumber d, dF_number t d, b, _, rfl, DPut.k (k := Sum.inl (d.id : Int)) hd (small1000 (by rw [trues_len]; exact Nat.le_trans hz2 (by decide : 900 ≤ 1000))), ?_⟩
  rw [put_trues]
  obtain ⟨k1, k2, k3⟩ := g1.put hb hk (addN (s.ks k) d.id)
  exact q _ _ k1 (g2.trans k2) (k1.rows (p, d) (List.mem_append_right _ (List.mem_singleton.mpr rfl))) (k3 _ (g3 _ ht))
/-! ### add_move, add_turn -/
def spAdd (c : Cs) (T : List (Addr × Str)) (vs : List V) (k : Nat) (act : Sq31.Act) (H : Hp) (Q : Addr → Hp → Prop) (rest : List V) : Prop := ∃ (a : Addr) (W : Hw) (s : S) (h : House), vs = .ref a :: I k :: rest ∧ HouseAt c H a W s ∧ Fine s h ∧ k < s.known.length ∧ s.done.length < 120 ∧ Tabs T H ∧
  ∀ (H' : Hp) (W' : Hw) (p : Addr), HouseAt c H' a W' (s.does k act) → HStep a H W H' W' → Tabs T H' → DeedAt c H' p (newDeed s k act) → Q p H'
def spAddMove (c : Cs) (T : List (Addr × Str)) : Sp := fun vs H Q _ => ∃ k x u v : Nat, spAdd c T vs k (.move x u v) H (fun p H' => Q (.ref p) H') [I x, I u, I v]
def turnAct (i : Nat) (b : Bool) : Sq31.Act := if b = true then .again i else .back i
def spAddTurn (c : Cs) (T : List (Addr × Str)) : Sp := fun vs H Q _ => ∃ (k i : Nat) (b : Bool), spAdd c T vs k (turnAct i b) H (fun _ H' => Q .non H') [I i, .bl b]
theorem does_is {s : S} {h : House} (g : Good s h) (k : Nat) (act : Sq31.Act) : (⟨s.done ++ [newDeed s k act], s.known.set k (addN (s.ks k) (newDeed s k act).id)⟩ : S) = s.does k act := by
  have : addN (s.ks k) (newDeed s k act).id = s.ks k ++ [s.done.length] := if_neg fun z => Nat.lt_irrefl _ (g.lt k _ z)
  rw [this]
  rfl
theorem made_same {H H2 : Hp} {x dx C : Addr} {fs : List (Str × V)} (n1 : H x = none) (n2 : H dx = none) (k : ∀ b o, (upd (upd H dx (.own x)) x (.ins C dx fs)) b = some o → b ≠ x → H2 b = some o) : Same H H2 := fun b o e => by
  refine k b o ?_ (ne_of_none e n1)
  rw [upd_ne (ne_of_none e n1), upd_ne (ne_of_none e n2)]
  exact e
theorem sc_add_move : FnScope ["self", "desk", "thing", "under", "label", "stamp", "deed"] ["self", "desk", "thing", "under", "label"] (defScope (hs 13)) := ⟨rfl, rfl, rfl, by decide +kernel, rfl, by decide +kernel, by decide +kernel⟩
theorem ok_add_move {f : Addr} {fd : FuncData} (F : L2.Fun K "add_move" "House.add_move" (hs 13) f fd) (T : Txt K mg c) (TH : TxtH K mg c) (mK : C8.Met P w K mg base 1 c.H "known_deeds" (spKnown K c) []) (mP : C8.Met P w K mg base 1 c.H "keep" (spKeep c Tb) []) (cS : C8.Cal P w K mg base 1 "stamp_for" (spStampFor K c) []) (cN : C8.Mak P w K mg base 1 "Move" c.M (spMoveInit c) []) :
    FnOk P w K mg base L2.CX0 3 f fd ["self", "desk", "thing", "under", "label"] (spAddMove c Tb) := by
  refine F.ok sc_add_move (fun vs H Q E h => ?_) fun cdv A outer s H vs Q E hr h => ⟨_, pss_cons (ps_set (i := 5) sc_add_move.nd rfl (.inl rfl) (C8.pe_c cS hr (by decide) rfl (pa_cons (pv 1) (pa_cons (C8.pe_mt mK hr (by decide) (pv 0) (pa_cons (pv 1) pa_nil)) pa_nil))))
    (pss_cons (ps_set (i := 6) sc_add_move.nd rfl (.inl rfl) (C8.pe_mk cN hr (by decide) rfl (pa_cons (pe_callB call_len_seq (by rfl) T.bLen PySem.boot_len (pa_cons (pe_fld (pv 0) rfl) pa_nil)) (pa_cons (pv 5) (pa_cons (pv 2) (pa_cons (pv 3) (pa_cons (pv 4) pa_nil)))))))
    (pss_cons (ps_expr (C8.pe_mt mP hr (by decide) (pv 0) (pa_cons (pv 1) (pa_cons (pv 6) pa_nil)))) (pss_one (ps_ret (pv 6))))), ?_⟩
  · obtain ⟨k, x, u, v, a, W, s, h, rfl, _⟩ := h
    rfl
  obtain ⟨k, x, u, v, a, W, s, h, rfl, hh, hf, hk, hz, ht, q⟩ := h
  refine ⟨_, rfl, _, rfl, a, _, _, rfl, hh.ins, hF_no (by decide +kernel) (by decide +kernel), _, rfl, a, W, s, k, rfl, hh, hk, hf.good.lt k, Nat.le_trans (hf.ks k) (by decide), fun H1 p1 L e1 n1 hp1 hr1 hs1 => ?_⟩
  have hl := sec_len hf hs1
  refine ⟨k, p1, L, rfl, SqL.of hp1, hr1, by omega, fun H2 t e2 n2 hst => ?_⟩
  have e12 : Same H H2 := e1.trans e2
  have hh2 := hh.ext (extN_of_same e12)
  rw [hs1] at hst
  refine ⟨_, rfl, a, c.H, W.dx, _, _, rfl, hh2.ins, TH.cl, TH.nD, hF_done W, _, _, rfl, .inl (SqL.of hh2.done), _, rfl, _, rfl, _, rfl, _, rfl, fun p dx np ndx ne => ?_⟩
  rw [refs_len, hh.secs]
  refine ⟨p, dx, s.done.length, t, x, u, v, rfl, upd_same, fun H3 hp3 keep3 => ⟨rfl, ?_⟩⟩
  have e3 : Same H2 H3 := made_same np ndx keep3
  have hh3 := hh2.ext (extN_of_same e3)
  have hdeed : DeedAt c H3 p (newDeed s k (.move x u v)) := ⟨dx, t, hp3, e3 _ _ hst⟩
  refine ⟨_, rfl, a, _, _, rfl, hh3.ins, hF_no (by decide +kernel) (by decide +kernel), _, rfl, _, rfl, a, W, s, k, p, newDeed s k (.move x u v), rfl, hh3, hdeed, hk, by omega, by have := hf.ks k; omega, (ht.ext e12).ext e3, fun H4 W4 hh4 st4 hd4 t4 => ?_⟩
  rw [does_is hf.good] at hh4
  exact ⟨_, rfl, q H4 W4 p hh4 ((HStep.same (e12.trans e3)).trans st4) t4 hd4⟩
theorem sc_add_turn : FnScope ["self", "desk", "target", "to_hold", "stamp"] ["self", "desk", "target", "to_hold"] (defScope (hs 14)) := ⟨rfl, rfl, rfl, by decide +kernel, rfl, by decide +kernel, by decide +kernel⟩
theorem ok_add_turn {f : Addr} {fd : FuncData} (F : L2.Fun K "add_turn" "House.add_turn" (hs 14) f fd) (T : Txt K mg c) (TH : TxtH K mg c) (mK : C8.Met P w K mg base 1 c.H "known_deeds" (spKnown K c) []) (mP : C8.Met P w K mg base 1 c.H "keep" (spKeep c Tb) []) (cS : C8.Cal P w K mg base 1 "stamp_for" (spStampFor K c) []) (cN : C8.Mak P w K mg base 1 "Turn" c.T (spTurnInit c) []) :
    FnOk P w K mg base L2.CX0 3 f fd ["self", "desk", "target", "to_hold"] (spAddTurn c Tb) := by
  refine F.ok sc_add_turn (fun vs H Q E h => ?_) fun cdv A outer s H vs Q E hr h => ⟨_, pss_cons (ps_set (i := 4) sc_add_turn.nd rfl (.inl rfl) (C8.pe_c cS hr (by decide) rfl (pa_cons (pv 1) (pa_cons (C8.pe_mt mK hr (by decide) (pv 0) (pa_cons (pv 1) pa_nil)) pa_nil))))
    (pss_one (ps_expr (C8.pe_mt mP hr (by decide) (pv 0) (pa_cons (pv 1) (pa_cons (C8.pe_mk cN hr (by decide) rfl (pa_cons (pe_callB call_len_seq (by rfl) T.bLen PySem.boot_len (pa_cons (pe_fld (pv 0) rfl) pa_nil)) (pa_cons (pv 4) (pa_cons (pv 2) (pa_cons (pv 3) pa_nil))))) pa_nil))))), ?_⟩
  · obtain ⟨k, i, b, a, W, s, h, rfl, _⟩ := h
    rfl
  obtain ⟨k, i, b, a, W, s, h, rfl, hh, hf, hk, hz, ht, q⟩ := h
  refine ⟨_, rfl, _, rfl, a, _, _, rfl, hh.ins, hF_no (by decide +kernel) (by decide +kernel), _, rfl, a, W, s, k, rfl, hh, hk, hf.good.lt k, Nat.le_trans (hf.ks k) (by decide), fun H1 p1 L e1 n1 hp1 hr1 hs1 => ?_⟩
  have hl := sec_len hf hs1
  refine ⟨k, p1, L, rfl, SqL.of hp1, hr1, by omega, fun H2 t e2 n2 hst => ?_⟩
  have e12 : Same H H2 := e1.trans e2
  have hh2 := hh.ext (extN_of_same e12)
  rw [hs1] at hst
  refine ⟨_, rfl, a, _, _, rfl, hh2.ins, hF_no (by decide +kernel) (by decide +kernel), _, rfl, _, rfl, a, c.H, W.dx, _, _, rfl, hh2.ins, TH.cl, TH.nD, hF_done W, _, _, rfl, .inl (SqL.of hh2.done), _, rfl, _, rfl, _, rfl, fun p dx np ndx ne => ?_⟩
  rw [refs_len, hh.secs]
  refine ⟨p, dx, s.done.length, t, i, b, rfl, upd_same, fun H3 hp3 keep3 => ⟨rfl, ?_⟩⟩
  have e3 : Same H2 H3 := made_same np ndx keep3
  have hh3 := hh2.ext (extN_of_same e3)
  have hdeed : DeedAt c H3 p (newDeed s k (turnAct i b)) := by
    refine ⟨dx, t, ?_, e3 _ _ hst⟩
    cases b <;> exact hp3
  refine ⟨a, W, s, k, p, newDeed s k (turnAct i b), rfl, hh3, hdeed, hk, by omega, by have := hf.ks k; omega, (ht.ext e12).ext e3, fun H4 W4 hh4 st4 hd4 t4 => ?_⟩
  rw [does_is hf.good] at hh4
  exact q H4 W4 p hh4 ((HStep.same (e12.trans e3)).trans st4) t4 hd4
/-! ### House() -/
def spHouse (c : Cs) : Sp := fun vs H Q _ => ∃ p dx : Addr, vs = [.ref p] ∧ H p = some (.ins c.H dx []) ∧
  ∀ (H' : Hp) (W : Hw), HouseAt c H' p W ⟨[], [[]]⟩ → (∀ b ∈ foot p W, b = p ∨ H b = none) → (∀ b o, H b = some o → b ≠ p → H' b = some o) → Q .non H'
theorem sc_house : FnScope ["self"] ["self"] (defScope (hs 0)) := ⟨rfl, rfl, rfl, by decide +kernel, rfl, by decide +kernel, by decide +kernel⟩
theorem ok_house {f : Addr} {fd : FuncData} {k : Nat} (F : L2.Fun K "__init__" "House.__init__" (hs 0) f fd) (TH : TxtH K mg c) : FnOk P w K mg base L2.CX0 (k + 1) f fd ["self"] (spHouse c) := by
  refine F.ok sc_house (fun vs H Q E h => ?_) fun cdv A outer s H vs Q E hr h => ⟨_, pss_cons (ps_fld (pv 0) (pe_lst pa_nil) rfl) (pss_one (ps_fld (pv 0) (pe_lst (pa_cons pe_dnewK pa_nil)) rfl)), ?_⟩
  · obtain ⟨p, dx, rfl, _⟩ := h
    rfl
  obtain ⟨p, dx, rfl, hp, q⟩ := h
  refine ⟨Nat.zero_le _, fun l nl => ?_⟩
  have hpl : p ≠ l := ne_of_none hp nl
  refine ⟨_, rfl, p, c.H, dx, _, rfl, by rw [upd_ne hpl]; exact hp, TH.cl, TH.nD, by decide, fun d nd => ?_⟩
  have hld : l ≠ d := fun z => by rw [← z, upd_ne hpl.symm, upd_same] at nd; cases nd
  have hpd : p ≠ d := fun z => by rw [← z, upd_same] at nd; cases nd
  refine ⟨(by show 1 ≤ sizeLine; decide), fun m nm => ?_⟩
  have hmd : m ≠ d := fun z => by rw [z, upd_same] at nm; cases nm
  have hmp : m ≠ p := fun z => by rw [z, upd_ne hpd, upd_same] at nm; cases nm
  have hml : m ≠ l := fun z => by rw [z, upd_ne hld, upd_ne hpl.symm, upd_same] at nm; cases nm
  have nd0 : H d = none := by rw [upd_ne hpd.symm, upd_ne hld.symm] at nd; exact nd
  have nm0 : H m = none := by rw [upd_ne hmd, upd_ne hmp, upd_ne hml] at nm; exact nm
  refine ⟨_, rfl, p, c.H, dx, _, rfl, by rw [upd_ne hmp.symm, upd_ne hpd, upd_same], TH.cl, TH.nK, (by show 1 < 1000; decide), ?_⟩
  refine q _ ⟨dx, l, m, [], [d]⟩ ⟨upd_same.trans rfl, ?_, fun r hr => (nomatch hr), rfl, ?_, hml.symm, List.nodup_cons.mpr ⟨List.not_mem_nil, List.nodup_nil⟩, rfl, fun k b l' h1 h2 => ?_⟩ (fun b hb => ?_) fun b o hb hn => ?_
  · rw [upd_ne hpl.symm, upd_ne hml.symm, upd_ne hld, upd_ne hpl.symm, upd_same]
    rfl
  · rw [upd_ne hmp, upd_same]
    rfl
  · cases k with
    | zero =>
      cases h1
      cases h2
      rw [upd_ne hpd.symm, upd_ne hmd.symm, upd_same]
      rfl
    | succ k => simp at h1
  · rcases List.mem_cons.mp hb with z | hb
    · exact .inl z
    rcases (List.mem_cons.mp hb) with z | hb
    · exact .inr (by rw [z]; exact nl)
    rcases (List.mem_cons.mp hb) with z | hb
    · exact .inr (by rw [z]; exact nm0)
    · exact .inr (by rw [List.mem_singleton.mp hb]; exact nd0)
  · rw [upd_ne hn, upd_ne (ne_of_none hb nm0), upd_ne (ne_of_none hb nd0), upd_ne hn, upd_ne (ne_of_none hb nl)]
    exact hb
/-! ### start -/
def spStart (c : Cs) (T : List (Addr × Str)) : Sp := fun vs H Q _ => ∃ (a : Addr) (W : Hw) (s : S) (n : Nat), vs = [.ref a, I n] ∧ HouseAt c H a W s ∧ n ≤ 8 ∧ Tabs T H ∧
  ∀ (H' : Hp) (W' : Hw), HouseAt c H' a W' ⟨[], List.replicate n []⟩ → HStep a H W H' W' → Tabs T H' → Q .non H'
theorem sc_start : FnScope ["self", "desks", "desk"] ["self", "desks"] (defScope (hs 1)) := ⟨rfl, rfl, rfl, by decide +kernel, rfl, by decide +kernel, by decide +kernel⟩
theorem ok_start {f : Addr} {fd : FuncData} {k : Nat} (F : L2.Fun K "start" "House.start" (hs 1) f fd) (T : Txt K mg c) (TH : TxtH K mg c) : FnOk P w K mg base L2.CX0 (k + 1) f fd ["self", "desks"] (spStart c Tb) := by
  refine F.ok sc_start (fun vs H Q E h => ?_) fun cdv A outer s H vs Q E hr h => ⟨_, pss_cons (ps_fld (pv 0) (pe_lst pa_nil) rfl) (pss_one (ps_fld (pv 0) (pe_lc (own := [("desk", 2)]) (g := gName 2) (tt := tYes) (te := tDNewK) rfl sc_start.nd
      (pi_range1 rfl T.bRange (pa_cons (pv 1) pa_nil)) (blkOk_by (own := [("desk", 2)]) (N := ["self", "desks", "desk"]) (sc := defScope (hs 1)) (by decide +kernel))
      (fun _ _ _ _ _ => pg_name (i := 2) sc_start.nd rfl (Or.inl rfl)) (fun _ _ _ _ _ => pts_nil) (fun _ _ _ _ _ => pe_dnewK)) rfl)), ?_⟩
  · obtain ⟨a, W, s, n, rfl, _⟩ := h
    rfl
  obtain ⟨a, W, s, n, rfl, hh, hn, ht, q⟩ := h
  refine ⟨Nat.zero_le _, fun l nl => ?_⟩
  have hal : a ≠ l := ne_of_none hh.ins nl
  refine ⟨_, rfl, a, c.H, W.dx, _, rfl, by rw [upd_ne hal]; exact hh.ins, TH.cl, TH.nD, (by show 2 < 1000; decide), ?_⟩
  have ef : putF "done" (V.ref l) (hF W) = ([("done", .ref l), ("known", .ref W.kl)] : List (Str × V)) := pf_here
  rw [ef]
  have hl1 : upd (upd H l (.lst [])) a (.ins c.H W.dx [("done", .ref l), ("known", .ref W.kl)]) l = some (.lst []) := by rw [upd_ne hal.symm, upd_same]
  have ha1 : upd (upd H l (.lst [])) a (.ins c.H W.dx [("done", .ref l), ("known", .ref W.kl)]) a = some (.ins c.H W.dx [("done", .ref l), ("known", .ref W.kl)]) := upd_same
  have old1 : ∀ b o, H b = some o → b ≠ a → upd (upd H l (.lst [])) a (.ins c.H W.dx [("done", .ref l), ("known", .ref W.kl)]) b = some o := fun b o hb hne => by rw [upd_ne hne, upd_ne (ne_of_none hb nl)]; exact hb
  have t1 : Tabs Tb (upd (upd H l (.lst [])) a (.ins c.H W.dx [("done", .ref l), ("known", .ref W.kl)])) := Tabs.write (Tabs.new ht nl) (by rw [upd_ne hal]; exact hh.ins) notTbl_ins ins_code
  generalize upd (upd H l (.lst [])) a (.ins c.H W.dx [("done", .ref l), ("known", .ref W.kl)]) = H1 at hl1 ha1 old1 t1
  refine ⟨_, rfl, n, rfl, by omega, by omega, fun D hD => ?_⟩
  have haD : a ≠ D := ne_of_none ha1 hD
  have hlD : l ≠ D := ne_of_none hl1 hD
  have hHD : ∀ {b : Addr}, H1 b = none → H b = none := fun {b} hb => by
    cases z : H b with
    | none => rfl
    | some o =>
      by_cases e : b = a
      · rw [e, ha1] at hb; cases hb
      · rw [old1 b o z e] at hb; cases hb
  refine lc_range (lo := 0) (n := n) (fun i H' => ∃ ds : List Addr, ds.length = i ∧ ds.Nodup ∧ Same H1 H' ∧ Tabs Tb H' ∧ H' D = some (.lst (ds.map V.ref)) ∧ ∀ b ∈ ds, H1 b = none ∧ H' b = some (.dK []))
    ⟨[], rfl, List.nodup_nil, same_new (Same.refl H1) hD, Tabs.new t1 hD, upd_same, fun b hb => (nomatch hb)⟩ ?_ ?_
  · rintro i H' hi ⟨ds, h1, h2, h3, h4, h5, h6⟩
    refine ⟨rfl, fun d nd => ?_⟩
    have hdD : D ≠ d := ne_of_none h5 nd
    refine ⟨_, by rw [upd_ne hdD]; exact h5, small1000 (by rw [List.length_map]; omega), ds ++ [d], by rw [List.length_append, h1]; rfl, ?_, same_write (same_new h3 nd) hD, ?_, ?_, fun b hb => ?_⟩
    · rw [List.nodup_append]
      refine ⟨h2, by simp, fun x hx y hy z => ?_⟩
      rw [List.mem_singleton.mp hy] at z
      have := (h6 x hx).2
      rw [z, nd] at this
      cases this
    · exact Tabs.write (Tabs.new h4 nd) (by rw [upd_ne hdD]; exact h5) notTbl_lst lst_code
    · rw [upd_same, List.map_append]
      rfl
    · rcases (List.mem_append.mp hb) with hb | hb
      · obtain ⟨x1, x2⟩ := h6 b hb
        refine ⟨x1, ?_⟩
        rw [upd_ne (fun z => by rw [z, h5] at x2; cases x2), upd_ne (ne_of_none x2 nd)]
        exact x2
      · rw [(List.mem_singleton.mp hb)]
        refine ⟨h3.free nd, ?_⟩
        rw [upd_ne hdD.symm, upd_same]
  · rintro H' ⟨ds, h1, h2, h3, h4, h5, h6⟩
    refine ⟨_, rfl, a, c.H, W.dx, _, rfl, h3 _ _ ha1, TH.cl, TH.nK, (by show 2 < 1000; decide), ?_⟩
    have ef2 : putF "known" (V.ref D) ([("done", .ref l), ("known", .ref W.kl)] : List (Str × V)) = hF ⟨W.dx, l, D, [], ds⟩ := (pf_past (by decide +kernel)).trans (congrArg _ pf_here)
    rw [ef2]
    refine q _ ⟨W.dx, l, D, [], ds⟩ ⟨upd_same, ?_, fun r hr => (nomatch hr), rfl, ?_, hlD, h2, ?_, fun k b l' z1 z2 => ?_⟩ ⟨fun b hb => ?_, fun b o hb _ hf => ?_⟩ (Tabs.write h4 (h3 _ _ ha1) notTbl_ins ins_code)
    · rw [upd_ne hal.symm]
      exact h3 _ _ hl1
    · rw [upd_ne haD.symm]
      exact h5
    · rw [List.length_replicate]
      exact h1
    · have hb := List.mem_of_getElem? z1
      obtain ⟨x1, x2⟩ := h6 b hb
      have : l' = [] := by
        rw [List.getElem?_replicate] at z2
        split at z2
        · exact (Option.some.inj z2).symm
        · cases z2
      rw [upd_ne (fun z => by rw [z, ha1] at x1; cases x1), x2, this]
      rfl
    · rcases List.mem_cons.mp hb with z | hb
      · exact .inl (by rw [z]; exact List.mem_cons_self)
      rcases (List.mem_cons.mp hb) with z | hb
      · exact .inr (by rw [z]; exact NewN.none nl)
      rcases (List.mem_cons.mp hb) with z | hb
      · exact .inr (by rw [z]; exact NewN.none (hHD hD))
      · exact .inr (NewN.none (hHD (h6 b hb).1))
    · have hba : b ≠ a := fun z => hf (by rw [z]; exact List.mem_cons_self)
      rw [upd_ne hba]
      exact h3 _ _ (old1 b o hb hba)
end
end Hb
end

section
set_option Elab.async false
set_option linter.all false
set_option maxRecDepth 10000
namespace Hb
open Sq28 (Place)
abbrev Tr := Sq28.Tree
/-! ### the listing of a tree -/
def aLen (t : Tr) (x : Nat) : Nat := (Sq28.above t x).length
theorem above_is {t : Tr} (w : WF t) (x : Nat) : Chain t x (Sq28.above t x) := by
  obtain ⟨l, hl⟩ := chain_ex w.ranked x
  rw [above_chain w hl]
  exact hl
theorem aLen_le {t : Tr} (w : WF t) (x : Nat) : aLen t x ≤ t.length + 1 := chain_len w.ranked (above_is w x)
theorem aLen_pos {t : Tr} (w : WF t) (x : Nat) : 1 ≤ aLen t x := List.length_pos_of_mem (chain_head (above_is w x))
theorem aLen_step {t : Tr} (w : WF t) {p : Place} (h : p ∈ t) : aLen t p.thing = aLen t p.under + 1 := by
  unfold aLen
  rw [above_chain w (.step (get_of w.rises h) (above_is w p.under))]
  rfl
theorem under_mem {t : Tr} {x : Nat} {p : Place} (h : p ∈ Sq28.under t x) : p ∈ t ∧ p.under = x := by
  unfold Sq28.under at h
  obtain ⟨h1, h2⟩ := List.mem_filter.mp h
  exact ⟨h1, by simpa using h2⟩
theorem flatMap_congr' {α β : Type} {f g : α → List β} : ∀ {l : List α}, (∀ x ∈ l, f x = g x) → l.flatMap f = l.flatMap g
  | [], _ => rfl
  | x :: l, h => by
    rw [List.flatMap_cons, List.flatMap_cons, h x List.mem_cons_self, flatMap_congr' fun y hy => h y (List.mem_cons_of_mem _ hy)]
theorem listed_fuel {t : Tr} (w : WF t) : ∀ (f f' d x : Nat), t.length + 2 ≤ f + aLen t x → t.length + 2 ≤ f' + aLen t x → Sq28.listed t f d x = Sq28.listed t f' d x
  | 0, _, _, x, h, _ => by
    have := aLen_le w x
    omega
  | f + 1, 0, _, x, _, h => by
    have := aLen_le w x
    omega
  | f + 1, f' + 1, d, x, h, h' => by
    unfold Sq28.listed
    refine flatMap_congr' fun p hp => ?_
    obtain ⟨h1, h2⟩ := under_mem hp
    have h3 := aLen_step w h1
    rw [h2] at h3
    rw [listed_fuel w f f' (d + 1) p.thing (by omega) (by omega)]
def Lst (t : Tr) (x d : Nat) : List (Place × Nat) := Sq28.listed t (t.length + 1) d x
theorem Lst_step {t : Tr} (w : WF t) (x d : Nat) : Lst t x d = (Sq28.under t x).flatMap fun p => (p, d) :: Lst t p.thing (d + 1) := by
  have u : Sq28.listed t (t.length + 1) d x = (Sq28.under t x).flatMap fun p => (p, d) :: Sq28.listed t t.length (d + 1) p.thing := by rw [Sq28.listed]
  unfold Lst
  rw [u]
  refine flatMap_congr' fun p hp => ?_
  obtain ⟨h1, h2⟩ := under_mem hp
  have h3 := aLen_step w h1
  have h4 := aLen_pos w p.under
  exact congrArg (List.cons (p, d)) (listed_fuel w t.length (t.length + 1) (d + 1) p.thing (by omega) (by omega))
/-- what is still to be listed: the last first -/
def rest (t : Tr) (ws : List (Place × Nat)) : List (Place × Nat) := ws.reverse.flatMap fun z => z :: Lst t z.1.thing (z.2 + 1)
theorem rest_nil (t : Tr) : rest t [] = [] := rfl
theorem rest_len (t : Tr) (ws : List (Place × Nat)) : ws.length ≤ (rest t ws).length := by
  unfold rest
  rw [← List.length_reverse (as := ws)]
  generalize ws.reverse = l
  induction l with
  | nil => exact Nat.zero_le _
  | cons z l ih =>
    rw [List.flatMap_cons, List.length_append, List.length_cons, List.length_cons]
    omega
def subs (t : Tr) (x d : Nat) : List (Place × Nat) := ((Sq28.under t x).reverse).map fun p => (p, d)
theorem rest_subs {t : Tr} (w : WF t) (x d : Nat) : rest t (subs t x d) = Lst t x d := by
  unfold rest subs
  rw [← List.map_reverse, List.reverse_reverse, List.flatMap_map, Lst_step w]
theorem rest_step {t : Tr} (w : WF t) (ws : List (Place × Nat)) (z : Place × Nat) : rest t (ws ++ [z]) = z :: rest t (ws ++ subs t z.1.thing (z.2 + 1)) := by
  have e : rest t (ws ++ subs t z.1.thing (z.2 + 1)) = rest t (subs t z.1.thing (z.2 + 1)) ++ rest t ws := by
    unfold rest
    rw [List.reverse_append, List.flatMap_append]
  rw [e, rest_subs w]
  unfold rest
  rw [List.reverse_append]
  rfl
theorem all_is (t : Tr) : Sq28.all t Sq28.ROOT = Lst t Sq28.ROOT 1 := rfl
theorem desc_unique : ∀ {l m : List Int}, l.Pairwise (· ≥ ·) → m.Pairwise (· ≥ ·) → l.Perm m → l = m
  | [], m, _, _, p => (List.Perm.eq_nil p.symm).symm
  | a :: l, [], _, _, p => absurd p.length_eq (by simp)
  | a :: l, b :: m, h1, h2, p => by
    obtain ⟨a1, a2⟩ := List.pairwise_cons.mp h1
    obtain ⟨b1, b2⟩ := List.pairwise_cons.mp h2
    have e : a = b := by
      have ha : a ∈ b :: m := p.mem_iff.mp List.mem_cons_self
      have hb : b ∈ a :: l := p.mem_iff.mpr List.mem_cons_self
      rcases (List.mem_cons.mp ha) with e | ha
      · exact e
      · rcases (List.mem_cons.mp hb) with e | hb
        · exact e.symm
        · have := a1 b hb
          have := b1 a ha
          omega
    subst e
    rw [desc_unique a2 b2 (List.perm_cons a |>.mp p)]
end Hb
end

section
set_option Elab.async false
set_option linter.all false
set_option maxRecDepth 100000
set_option maxHeartbeats 2500000
namespace Hb
open L2 PySem PySem.Spec PyProof.Rows LamX
open Sq31 (Deed House)
abbrev Pl := Sq28.Place
section
variable {P : Program} {w : World} {K : PySem.W.Frag} {mg : Str → Option Value} {base : Heap} {c : Cs} {Tb : List (Addr × Str)}
/-! ### right_under -/
def spRight : Sp := fun vs H Q _ => ∃ (a : Addr) (u : Nat) (t : Sq28.Tree) (b : Nat), vs = [.ref a, I u] ∧ TreeAt H a t b ∧ b ≤ 1000 ∧ Rises t ∧
  ∀ (H' : Hp) (p : Addr), Same H H' → H p = none → H' p = some (.lst (((Sq28.under t u).reverse).map fun q => I q.thing)) → Q (.ref p) H'
abbrev s_right_under : Stmt := top 24
theorem sc_right_under : FnScope ["tree", "upper", "thing"] ["tree", "upper"] (defScope s_right_under) := ⟨rfl, rfl, rfl, by decide +kernel, rfl, by decide +kernel, by decide +kernel⟩
theorem keyVal {kvs : List (Key × V)} {k : Key} : k ∈ kvs.map (·.1) ↔ (valV kvs k).isSome = true := by
  rw [← valV_any, List.any_eq_true, List.mem_map]
  constructor
  · rintro ⟨p, h1, h2⟩
    exact ⟨p, h1, decide_eq_true h2⟩
  · rintro ⟨p, h1, h2⟩
    exact ⟨p, h1, of_decide_eq_true h2⟩
theorem tree_keys {H : Hp} {t : Sq28.Tree} (r : Rises t) {kvs : List (Key × V)} (hv : ∀ n : Nat, PlaceV H (valV kvs (Sum.inl (n : Int))) (Sq31.place t n)) {ks : List Nat} (h1 : kvs.map (·.1) = ks.map (fun n : Nat => (Sum.inl (n : Int) : Key))) (h2 : ks.Nodup) : ks.Perm (t.map (·.thing)) := by
  have nd : (t.map (·.thing)).Nodup := by
    unfold List.Nodup
    rw [List.pairwise_map]
    exact r.imp fun h => Nat.ne_of_lt h
  refine nodup_perm h2 nd fun n => ?_
  have e1 : n ∈ ks ↔ (Sum.inl (n : Int) : Key) ∈ kvs.map (·.1) := by
    rw [h1, List.mem_map]
    constructor
    · intro h
      exact ⟨n, h, rfl⟩
    · rintro ⟨m, hm, e⟩
      injection e with e
      rw [← Int.ofNat.inj e]
      exact hm
  rw [e1, keyVal, (hv n).isSome, place_isSome]
  constructor
  · intro h
    cases q : Sq28.get t n with
    | none => rw [q] at h; cases h
    | some p =>
      obtain ⟨a1, a2⟩ := get_mem q
      exact List.mem_map.mpr ⟨p, a1, a2⟩
  · intro h
    obtain ⟨p, hp, e⟩ := (List.mem_map.mp h)
    rw [← e, get_of r hp]
    rfl
theorem ok_right_under {f : Addr} {fd : FuncData} {k : Nat} (F : L2.Fun K "right_under" "right_under" s_right_under f fd) (T : Txt K mg c) : FnOk P w K mg base L2.CX0 (k + 1) f fd ["tree", "upper"] spRight := by
  refine F.ok sc_right_under (fun vs H Q E h => ?_) fun cdv A outer s H vs Q E hr h => ⟨_, pss_one (ps_ret (pe_lc (own := [("thing", 2)]) (g := gName 2) (tt := tTest (tOp rEq (tOp (rIxT K) (tDGet (tVar 0) (tVar 2)) (tC (.int 0))) (tVar 1))) (te := tVar 2) rfl sc_right_under.nd
      (pi_list (pe_callBK (cr_sortDR rfl) (by rfl) T.bSorted (by decide +kernel) (by exact pa_cons (pv 0) pa_nil) (by exact pk_cons pe_bl pk_nil))) (blkOk_by (own := [("thing", 2)]) (N := ["tree", "upper", "thing"]) (sc := defScope s_right_under) (by decide +kernel))
      (fun _ _ _ _ _ => pg_name (i := 2) sc_right_under.nd rfl (Or.inl rfl))
      (fun _ _ _ _ _ => pts_one (pt_cmpR op_eq (pe_ix ix_tup (pe_dget (hu_of hr) (pv 0) (pv 2) (fun _ _ => rfl)) pe_int (fun _ _ => rfl)) (pv 1) (nomark _)))
      (fun _ _ _ _ _ => pv 2))), ?_⟩
  · obtain ⟨a, u, t, b, rfl, _⟩ := h
    rfl
  obtain ⟨a, u, t, b, rfl, ⟨kvs, hk, hkl, hv, ks, hks, hnd⟩, hb, ri, q⟩ := h
  have hp := tree_keys ri hv hks hnd
  have hlen : ks.length = kvs.length := by
    have := congrArg List.length hks
    rw [List.length_map, List.length_map] at this
    exact this.symm
  have hkk : kvs.map (·.1) = (ks.map Int.ofNat).map Sum.inl := by rw [hks, List.map_map]; rfl
  refine ⟨_, rfl, a, kvs, ks.map Int.ofNat, rfl, rfl, .inl hk, hkk, by rw [List.length_map]; omega, fun ys l hy1 hy2 nl => ?_⟩
  have hys : ys.map V.int = (t.reverse).map fun q => I q.thing := by
    have e : ys = ((t.reverse).map (·.thing)).map Int.ofNat := by
      refine desc_unique hy2 ?_ (hy1.trans ?_)
      · rw [List.pairwise_map, List.pairwise_map, List.pairwise_reverse]
        exact ri.imp fun h => Int.ofNat_le.mpr (Nat.le_of_lt h)
      · refine List.Perm.map _ (hp.trans ?_)
        rw [List.map_reverse]
        exact (List.reverse_perm _).symm
    rw [e, List.map_map, List.map_map]
    rfl
  rw [hys]
  have el := same_new (o := .lst ((t.reverse).map fun q => I q.thing)) (Same.refl H) nl
  have hl : upd H l (.lst ((t.reverse).map fun q => I q.thing)) l = some (.lst ((t.reverse).map fun q => I q.thing)) := upd_same
  generalize upd H l (.lst ((t.reverse).map fun q => I q.thing)) = H1 at el hl
  refine ⟨l, rfl, ⟨_, SqL.of hl⟩, fun D hD => lc_list (K := K) (a := l) (xs := (t.reverse).map fun q => I q.thing) (fun i H' => Same H1 H' ∧ H' D = some (.lst (((t.reverse.take i).filter fun q => q.under == u).map fun q => I q.thing)))
    ⟨same_new (Same.refl H1) hD, upd_same⟩ (fun i H' _ z => z.1.seq (SqL.of hl)) ?_ ?_⟩
  · rintro i y H' hi ⟨e4, hd⟩
    rw [List.getElem?_map] at hi
    obtain ⟨p, hp1, rfl⟩ : ∃ p, t.reverse[i]? = some p ∧ y = I p.thing := by
      cases z : t.reverse[i]? with
      | none => rw [z] at hi; cases hi
      | some p => rw [z] at hi; exact ⟨p, rfl, (Option.some.inj hi).symm⟩
    have hpt : p ∈ t := List.mem_reverse.mp (List.mem_of_getElem? hp1)
    have hpv := hv p.thing
    unfold Sq31.place at hpv
    rw [get_of ri hpt] at hpv
    obtain ⟨tp, hv1, hv2⟩ := hpv
    refine ⟨rfl, _, rfl, _, rfl, a, _, rfl, by rw [← hv1]; exact DGet.k (k := Sum.inl (p.thing : Int)) (e4 _ _ (el _ _ hk)), tp, _, _, _, rfl, rfl, SqT.of (e4 _ _ (el _ _ hv2)), atI_nat (j := 0) rfl, _, rfl, rfl, _, rfl, ?_⟩
    rw [dec_nat, take_snoc hp1, List.filter_append, List.filter_cons]
    cases hz : (p.under == u) with
    | false =>
      refine iteF ⟨e4, ?_⟩
      rw [hd]
      simp
    | true =>
      refine iteT ⟨_, rfl, _, hd, ?_, same_write e4 hD, ?_⟩
      · rw [List.length_map]
        have h3 := List.length_filter_le (fun q : Pl => q.under == u) (t.reverse.take i)
        have h4 : (t.reverse.take i).length ≤ t.length := by rw [List.length_take, List.length_reverse]; omega
        have h5 := hp.length_eq
        rw [List.length_map] at h5
        exact small1000 (Nat.le_trans h3 (Nat.le_trans h4 (by omega)))
      · rw [upd_same, List.map_append]
        rfl
  · rintro H' ⟨e4, hd⟩
    rw [List.length_map, List.take_of_length_le (Nat.le_refl _), List.filter_reverse] at hd
    exact q H' D (el.trans e4) (el.free hD) hd
/-! ### rows_within_root -/
structure ListedAt (H : Hp) (p : Addr) (rs : List (Pl × Nat)) : Prop where
  ex : ∃ L : List (Addr × Pl × Nat), H p = some (.lst (L.map fun z => V.ref z.1)) ∧ L.map (·.2) = rs ∧ ∀ z ∈ L, H z.1 = some (.tup [I z.2.1.thing, I z.2.2, I z.2.1.label])
def spRows : Sp := fun vs H Q _ => ∃ (a : Addr) (t : Sq28.Tree) (b : Nat), vs = [.ref a] ∧ TreeAt H a t b ∧ b ≤ 900 ∧ WF t ∧ (Sq28.all t Sq28.ROOT).length ≤ 1000000 ∧
  ∀ (H' : Hp) (p : Addr), Same H H' → H p = none → ListedAt H' p (Sq28.all t Sq28.ROOT) → Q (.ref p) H'
abbrev s_rows_within_root : Stmt := top 25
theorem sc_rows : FnScope ["tree", "rows", "depths", "waiting", "thing"] ["tree"] (defScope s_rows_within_root) := ⟨rfl, rfl, rfl, by decide +kernel, rfl, by decide +kernel, by decide +kernel⟩
/-- the loop's invariant; m: how many are still to be listed -/
def RInv (H : Hp) (a r d wt : Addr) (t : Sq28.Tree) (m : Nat) (σ : L2.St) (H' : Hp) : Prop := ∃ (x : Option V) (ws : List (Pl × Nat)) (L : List (Addr × Pl × Nat)) (kvs : List (Key × V)),
  σ = [some (.ref a), some (.ref r), some (.ref d), some (.ref wt), x] ∧ Same H H' ∧ H' wt = some (.lst (ws.map fun z => I z.1.thing)) ∧ H' r = some (.lst (L.map fun z => V.ref z.1)) ∧ (∀ z ∈ L, H' z.1 = some (.tup [I z.2.1.thing, I z.2.2, I z.2.1.label])) ∧
  H' d = some (.dK kvs) ∧ kvs.length ≤ L.length + 1 ∧ (∀ z ∈ ws, z.1 ∈ t ∧ valV kvs (Sum.inl (z.1.under : Int)) = some (I (z.2 - 1)) ∧ 1 ≤ z.2 ∧ z.2 + aLen t Sq28.ROOT = aLen t z.1.thing) ∧
  L.map (·.2) ++ rest t ws = Sq28.all t Sq28.ROOT ∧ m = (rest t ws).length
theorem snoc_of {α : Type} : ∀ (l : List α), l = [] ∨ ∃ m x, l = m ++ [x] := fun l => by
  cases h : l.reverse with
  | nil => exact .inl (by simpa using h)
  | cons x m => exact .inr ⟨m.reverse, x, by have := congrArg List.reverse h; simpa using this⟩
theorem ok_rows {f : Addr} {fd : FuncData} {k : Nat} (F : L2.Fun K "rows_within_root" "rows_within_root" s_rows_within_root f fd) (T : Txt K mg c) (TC : TxtC mg) (cR : C8.Cal P w K mg base k "right_under" spRight []) : FnOk P w K mg base L2.CX0 (k + 1) f fd ["tree"] spRows := by
  obtain ⟨t0, h0⟩ := TC.root
  refine F.ok sc_rows (fun vs H Q E h => ?_) fun cdv A outer s H vs Q E hr h => ⟨_, pss_cons (ps_set (i := 1) sc_rows.nd rfl (.inl rfl) (pe_lst pa_nil))
    (pss_cons (ps_set (i := 2) sc_rows.nd rfl (.inl rfl) (pe_disp (pps_cons (pe_glob (v := .int 0) rfl h0 ⟨_, rfl⟩) pe_int pps_nil) (by rfl) (by rfl) (fun z => by cases z) (by decide)))
    (pss_cons (ps_set (i := 3) sc_rows.nd rfl (.inl rfl) (C8.pe_c cR hr (Nat.le_refl _) rfl (pa_cons (pv 0) (pa_cons (pe_glob (v := .int 0) rfl h0 ⟨_, rfl⟩) pa_nil))))
    (pss_cons (ps_while PassesOwn.never (pt_cmpR op_gt (pe_callB call_len_seq (by rfl) T.bLen PySem.boot_len (pa_cons (pv 3) pa_nil)) pe_int (nomark _))
      (pss_cons (ps_set (i := 4) sc_rows.nd rfl (.inl rfl) (pe_bm0 PySem.F.plainAttrs_list PySem.F.slot_list_pop PySem.F.type_list_pop mt_pop (pv 3)))
      (pss_cons (ps_dput (hu_of hr) (pv 2) (pv 4) (pe_op op_add (pe_dget (hu_of hr) (pv 2) (pe_ix ix_tup (pe_dget (hu_of hr) (pv 0) (pv 4) (fun _ _ => rfl)) pe_int (fun _ _ => rfl)) (fun _ _ => rfl)) pe_int) rfl)
      (pss_cons (ps_expr (pe_bm PySem.F.plainAttrs_list PySem.F.slot_list_append PySem.F.type_list_append mt_append (pv 1) (pa_cons (pe_tup (pa_cons (pv 4) (pa_cons (pe_dget (hu_of hr) (pv 2) (pv 4) (fun _ _ => rfl)) (pa_cons (pe_ix ix_tup (pe_dget (hu_of hr) (pv 0) (pv 4) (fun _ _ => rfl)) pe_int (fun _ _ => rfl)) pa_nil)))) pa_nil)))
      (pss_one (ps_expr (pe_bm PySem.F.plainAttrs_list PySem.F.slot_list_extend PySem.F.type_list_extend mt_extend (pv 3) (pa_cons (C8.pe_c cR hr (Nat.le_refl _) rfl (pa_cons (pv 0) (pa_cons (pv 4) pa_nil))) pa_nil))))))))
    (pss_one (ps_ret (pv 1)))))), ?_⟩
  · obtain ⟨a, t, b, rfl, _⟩ := h
    rfl
  obtain ⟨a, t, b, rfl, ht, hb, wf, hbig, q⟩ := h
  refine ⟨Nat.zero_le _, fun r nr => ?_⟩
  have er := same_new (o := .lst []) (Same.refl H) nr
  have hr0 : upd H r (.lst []) r = some (.lst []) := upd_same
  generalize upd H r (.lst []) = H1 at er hr0
  intro d nd
  refine ⟨upd_same, [(Sum.inl 0, .int 0)], rfl, by decide, ?_⟩
  have em : mergeK [] [((Sum.inl 0 : Key), V.int 0)] = [((Sum.inl 0 : Key), V.int 0)] := rfl
  rw [em]
  have ed : Same H (upd (upd H1 d (.dK [])) d (.dK [((Sum.inl 0 : Key), V.int 0)])) := same_write (same_new er nd) (er.free nd)
  have hd0 : upd (upd H1 d (.dK [])) d (.dK [((Sum.inl 0 : Key), V.int 0)]) d = some (.dK [((Sum.inl 0 : Key), V.int 0)]) := upd_same
  have hr1 : upd (upd H1 d (.dK [])) d (.dK [((Sum.inl 0 : Key), V.int 0)]) r = some (.lst []) := by
    rw [upd_ne (ne_of_none hr0 nd), upd_ne (ne_of_none hr0 nd)]
    exact hr0
  have ndH := er.free nd
  generalize upd (upd H1 d (.dK [])) d (.dK [((Sum.inl 0 : Key), V.int 0)]) = H2 at ed hd0 hr1
  refine ⟨_, rfl, a, Sq28.ROOT, t, b, rfl, ht.ext (extN_of_same ed), by omega, wf.rises, fun H3 wt e3 n3 hw3 => ?_⟩
  have nwH : H wt = none := ed.free n3
  have all0 : Sq28.all t Sq28.ROOT = Lst t Sq28.ROOT 1 := rfl
  refine ⟨RInv H a r d wt t, ⟨_, none, subs t Sq28.ROOT 1, [], [((Sum.inl 0 : Key), V.int 0)], rfl, ed.trans e3, ?_, e3 _ _ hr1, fun z hz => (nomatch hz), e3 _ _ hd0, Nat.le_refl _, fun z hz => ?_, ?_, rfl⟩, ?_⟩
  · rw [hw3]
    unfold subs
    rw [List.map_map]
    rfl
  · unfold subs at hz
    obtain ⟨p, hp, rfl⟩ := List.mem_map.mp hz
    obtain ⟨h1, h2⟩ := under_mem (List.mem_reverse.mp hp)
    refine ⟨h1, ?_, Nat.le_refl _, ?_⟩
    · show valV _ (Sum.inl (p.under : Int)) = _
      rw [h2]
      rfl
    · have := aLen_step wf h1
      rw [h2] at this
      show 1 + _ = _
      rw [this]
      exact Nat.add_comm _ _
  · rw [rest_subs wf]
    rfl
  -- the turn
  rintro m σ H' ⟨x, ws, L, kvs, rfl, e, hw, hrr, hL, hd, hkl, hws, hall, hm⟩
  have lens : L.length + (rest t ws).length ≤ 1000000 := by
    have := congrArg List.length hall
    rw [List.length_append, List.length_map] at this
    omega
  have wlen := rest_len t ws
  refine ⟨_, rfl, _, _, rfl, .inl (SqL.of hw), _, _, rfl, rfl, _, rfl, ?_⟩
  rw [List.length_map]
  rcases snoc_of ws with z | ⟨ws0, z, hz⟩
  · subst z
    refine iteF ⟨_, rfl, q H' r e nr ⟨L, hrr, ?_, hL⟩⟩
    rw [rest_nil, List.append_nil] at hall
    exact hall
  · subst hz
    have hpos : decide ((0 : Int) < (((ws0 ++ [z]).length : Nat) : Int)) = true := by
      rw [List.length_append]
      exact decide_eq_true (by simp)
    rw [hpos]
    refine iteT ⟨fun σ' H2 => ∃ m', m' < m ∧ RInv H a r d wt t m' σ' H2, fun _ _ y => y, ?_⟩
    obtain ⟨z1, z2, z3, z4⟩ := hws z (List.mem_append_right _ (List.mem_singleton.mpr rfl))
    have hst := rest_step wf ws0 z
    rw [hst] at lens wlen hm hall
    rw [List.length_cons] at lens wlen hm
    obtain ⟨tk, hk, hkb, hv, hkn⟩ := ht
    have hpv := hv z.1.thing
    unfold Sq31.place at hpv
    rw [get_of wf.rises z1] at hpv
    obtain ⟨tp, hv1, hv2⟩ := hpv
    have hwl : (List.map (fun z : Pl × Nat => I z.1.thing) (ws0 ++ [z])) = ws0.map (fun z => I z.1.thing) ++ [I z.1.thing] := by rw [List.map_append]; rfl
    rw [hwl] at hw
    -- pop
    refine ⟨_, rfl, .inl ⟨rfl, _, SqL.of hw⟩, wt, _, I z.1.thing, rfl, rfl, hw, by simp, ?_⟩
    rw [List.dropLast_concat]
    have e1 := same_write (o := .lst (ws0.map fun z => I z.1.thing)) e nwH
    have hdw : d ≠ wt := fun y => by rw [y, hw] at hd; cases hd
    have hrw : r ≠ wt := fun y => by rw [y] at hrr; exact (by have := e3 _ _ hr1; rw [y] at this; have h9 := n3; rw [← y, hr1] at h9; cases h9)
    have hdr : d ≠ r := fun y => by rw [y, hrr] at hd; cases hd
    have hw1 : upd H' wt (.lst (ws0.map fun z => I z.1.thing)) wt = some (.lst (ws0.map fun z => I z.1.thing)) := upd_same
    have hr2 : upd H' wt (.lst (ws0.map fun z => I z.1.thing)) r = some (.lst (L.map fun z => V.ref z.1)) := by rw [upd_ne hrw]; exact hrr
    have hd1 : upd H' wt (.lst (ws0.map fun z => I z.1.thing)) d = some (.dK kvs) := by rw [upd_ne hdw]; exact hd
    have hL1 : ∀ z ∈ L, upd H' wt (.lst (ws0.map fun z => I z.1.thing)) z.1 = some (.tup [I z.2.1.thing, I z.2.2, I z.2.1.label]) := fun z hz => by rw [upd_ne (fun y => by have := hL z hz; rw [y, hw] at this; cases this)]; exact hL z hz
    generalize upd H' wt (.lst (ws0.map fun z => I z.1.thing)) = G1 at e1 hw1 hr2 hd1 hL1
    -- depths[thing] = ..
    refine ⟨_, rfl, _, rfl, _, rfl, a, _, rfl, by rw [← hv1]; exact DGet.k (k := Sum.inl (z.1.thing : Int)) (e1 _ _ hk), tp, _, _, _, rfl, rfl, SqT.of (e1 _ _ hv2), atI_nat (j := 0) rfl, d, _, rfl, by rw [← z2]; exact DGet.k (k := Sum.inl (z.1.under : Int)) hd1, _, _, rfl, rfl, _, rfl, _, rfl, d, _, rfl, DPut.k (k := Sum.inl (z.1.thing : Int)) hd1 (by rw [sizeLine_eq]; omega), ?_⟩
    have edep : (fun i j : Int => V.int (i + j)) ((z.2 - 1 : Nat) : Int) 1 = I z.2 := congrArg V.int (by omega)
    rw [edep]
    have e2 := same_write (o := .dK (putK kvs (Sum.inl (z.1.thing : Int)) (I z.2))) e1 ndH
    have hd2 : upd G1 d (.dK (putK kvs (Sum.inl (z.1.thing : Int)) (I z.2))) d = some (.dK (putK kvs (Sum.inl (z.1.thing : Int)) (I z.2))) := upd_same
    have hw2 : upd G1 d (.dK (putK kvs (Sum.inl (z.1.thing : Int)) (I z.2))) wt = some (.lst (ws0.map fun z => I z.1.thing)) := by rw [upd_ne hdw.symm]; exact hw1
    have hr3 : upd G1 d (.dK (putK kvs (Sum.inl (z.1.thing : Int)) (I z.2))) r = some (.lst (L.map fun z => V.ref z.1)) := by rw [upd_ne hdr.symm]; exact hr2
    have hL2 : ∀ z' ∈ L, upd G1 d (.dK (putK kvs (Sum.inl (z.1.thing : Int)) (I z.2))) z'.1 = some (.tup [I z'.2.1.thing, I z'.2.2, I z'.2.1.label]) := fun z' hz => by rw [upd_ne (fun y => by have := hL1 z' hz; rw [y, hd1] at this; cases this)]; exact hL1 z' hz
    generalize upd G1 d (.dK (putK kvs (Sum.inl (z.1.thing : Int)) (I z.2))) = G2 at e2 hw2 hr3 hd2 hL2
    -- rows.append(..)
    have hself : valV (putK kvs (Sum.inl (z.1.thing : Int)) (I z.2)) (Sum.inl (z.1.thing : Int)) = some (I z.2) := by rw [valV_put, if_pos rfl]
    refine ⟨_, rfl, .inl ⟨rfl, _, SqL.of hr3⟩, _, rfl, _, rfl, _, rfl, d, _, rfl, by rw [← hself]; exact DGet.k (k := Sum.inl (z.1.thing : Int)) hd2, _, rfl, _, rfl, a, _, rfl, by rw [← hv1]; exact DGet.k (k := Sum.inl (z.1.thing : Int)) (e2 _ _ hk), tp, _, _, _, rfl, rfl, SqT.of (e2 _ _ hv2), atI_nat (j := 1) rfl, (by show 3 ≤ sizeLine; decide), fun q1 nq => ?_⟩
    have hrq : r ≠ q1 := ne_of_none hr3 nq
    have hdq : d ≠ q1 := ne_of_none hd2 nq
    have hwq : wt ≠ q1 := ne_of_none hw2 nq
    refine ⟨r, _, _, rfl, rfl, by rw [upd_ne hrq]; exact hr3, by rw [List.length_map, sizeLine_eq]; omega, ?_⟩
    have hLn : (L.map fun z => V.ref z.1) ++ [V.ref q1] = (L ++ [(q1, z)]).map fun z => V.ref z.1 := by rw [List.map_append]; rfl
    rw [hLn]
    have e4 : Same H (upd (upd G2 q1 (.tup [I z.1.thing, I z.2, I z.1.label])) r (.lst ((L ++ [(q1, z)]).map fun z => V.ref z.1))) := same_write (same_new e2 nq) nr
    have hd3 : upd (upd G2 q1 (.tup [I z.1.thing, I z.2, I z.1.label])) r (.lst ((L ++ [(q1, z)]).map fun z => V.ref z.1)) d = some (.dK (putK kvs (Sum.inl (z.1.thing : Int)) (I z.2))) := by rw [upd_ne hdr, upd_ne hdq]; exact hd2
    have hw3' : upd (upd G2 q1 (.tup [I z.1.thing, I z.2, I z.1.label])) r (.lst ((L ++ [(q1, z)]).map fun z => V.ref z.1)) wt = some (.lst (ws0.map fun z => I z.1.thing)) := by rw [upd_ne hrw.symm, upd_ne hwq]; exact hw2
    have hr4 : upd (upd G2 q1 (.tup [I z.1.thing, I z.2, I z.1.label])) r (.lst ((L ++ [(q1, z)]).map fun z => V.ref z.1)) r = some (.lst ((L ++ [(q1, z)]).map fun z => V.ref z.1)) := upd_same
    have hL3 : ∀ z' ∈ L ++ [(q1, z)], upd (upd G2 q1 (.tup [I z.1.thing, I z.2, I z.1.label])) r (.lst ((L ++ [(q1, z)]).map fun z => V.ref z.1)) z'.1 = some (.tup [I z'.2.1.thing, I z'.2.2, I z'.2.1.label]) := fun z' hz => by
      rcases (List.mem_append.mp hz) with hz | hz
      · have h9 := hL2 z' hz
        rw [upd_ne (fun y => by rw [y, hr3] at h9; cases h9), upd_ne (ne_of_none h9 nq)]
        exact h9
      · rw [(List.mem_singleton.mp hz)]
        show upd (upd G2 q1 _) r _ q1 = _
        rw [upd_ne hrq.symm, upd_same]
    generalize upd (upd G2 q1 (.tup [I z.1.thing, I z.2, I z.1.label])) r (.lst ((L ++ [(q1, z)]).map fun z => V.ref z.1)) = G3 at e4 hw3' hr4 hd3 hL3
    -- waiting.extend(..)
    refine ⟨_, rfl, .inl ⟨rfl, _, SqL.of hw3'⟩, _, rfl, _, rfl, a, z.1.thing, t, b, rfl, ⟨tk, e4 _ _ hk, hkb, fun n => (hv n).same fun _ _ y => e4 _ _ y, hkn⟩, by omega, wf.rises, fun G4 u e5 n5 hu => ?_⟩
    have rl2 := rest_len t (ws0 ++ subs t z.1.thing (z.2 + 1))
    have sl : (subs t z.1.thing (z.2 + 1)).length = (Sq28.under t z.1.thing).reverse.length := by unfold subs; rw [List.length_map]
    rw [List.length_append, sl] at rl2
    refine ⟨wt, u, _, _, rfl, rfl, e5 _ _ hw3', hu, by rw [List.length_map, List.length_map, sizeLine_eq]; omega, ?_⟩
    have hu2 : (ws0.map fun z => I z.1.thing) ++ ((Sq28.under t z.1.thing).reverse.map fun q => I q.thing) = (ws0 ++ subs t z.1.thing (z.2 + 1)).map fun z => I z.1.thing := by
      unfold subs
      rw [List.map_append, List.map_map]
      rfl
    rw [hu2]
    refine ⟨_, ?_, some (I z.1.thing), ws0 ++ subs t z.1.thing (z.2 + 1), L ++ [(q1, z)], putK kvs (Sum.inl (z.1.thing : Int)) (I z.2), rfl, same_write (e4.trans e5) nwH, upd_same, ?_, fun z' hz => ?_, ?_, ?_, fun z' hz => ?_, ?_, rfl⟩
    · rw [hm]
      exact Nat.lt_succ_self _
    · rw [upd_ne hrw]
      exact e5 _ _ hr4
    · have h9 := e5 _ _ (hL3 z' hz)
      rw [upd_ne (fun y => by rw [y, e5 _ _ hw3'] at h9; cases h9)]
      exact h9
    · rw [upd_ne hdw]
      exact e5 _ _ hd3
    · have := putK_len kvs (Sum.inl (z.1.thing : Int)) (I z.2)
      rw [List.length_append]
      show _ ≤ L.length + 1 + 1
      omega
    · have dep : ∀ z' : Pl × Nat, z'.1 ∈ t → z'.1.under = z.1.thing → z'.2 + aLen t Sq28.ROOT = aLen t z'.1.thing → z'.2 = z.2 + 1 := fun z' h1 h2 h3 => by
        have := aLen_step wf h1
        rw [h2] at this
        omega
      rw [valV_put]
      rcases (List.mem_append.mp hz) with hz | hz
      · obtain ⟨y1, y2, y3, y4⟩ := hws z' (List.mem_append_left _ hz)
        refine ⟨y1, ?_, y3, y4⟩
        by_cases hu' : z'.1.under = z.1.thing
        · rw [if_pos (by rw [hu']), dep z' y1 hu' y4]
          rfl
        · rw [if_neg (fun y => hu' (by injection y with y; exact Int.ofNat.inj y))]
          exact y2
      · unfold subs at hz
        obtain ⟨p, hp, rfl⟩ := List.mem_map.mp hz
        obtain ⟨h1, h2⟩ := under_mem (List.mem_reverse.mp hp)
        refine ⟨h1, ?_, Nat.succ_le_succ (Nat.zero_le _), ?_⟩
        · show (if (Sum.inl (p.under : Int) : Key) = _ then _ else _) = some (I (z.2 + 1 - 1))
          rw [if_pos (by rw [h2])]
          rfl
        · show z.2 + 1 + _ = aLen t p.thing
          have := aLen_step wf h1
          rw [h2] at this
          omega
    · rw [List.map_append, List.append_assoc]
      exact hall
end
end Hb
end

section
set_option Elab.async false
set_option linter.all false
set_option maxRecDepth 100000
set_option maxHeartbeats 2500000
namespace Hb
open L2 PySem PySem.Spec PyProof.Rows LamX
open Sq31 (Deed House)

/-- the constants of the calls -/
structure TxtD (mg : Str → Option Value) : Prop where
  mostDesks : ∃ t, mg "MOST_DESKS" = some (.int 8 t)
  mostLabel : ∃ t, mg "MOST_LABEL" = some (.int 1000000000 t)
  notGranted : ∃ t, mg "NOT_GRANTED" = some (.int (-1) t)
  notFound : ∃ t, mg "NOT_FOUND" = some (.int (-2) t)
  noMove : ∃ t, mg "NO_MOVE" = some (.int (-3) t)
  alreadySo : ∃ t, mg "ALREADY_SO" = some (.int (-4) t)
  tooMany : ∃ t, mg "TOO_MANY_DEEDS" = some (.int (-5) t)
  notHolding : ∃ t, mg "NOT_HOLDING" = some (.int 0 t)

/-- a place that was new, or the house's -/
def Nu (a : Addr) (H : Hp) (W : Hw) (p : Addr) : Prop := NewN H p ∨ p ∈ foot a W
theorem HStep.nu {a p : Addr} {H H1 : Hp} {W W1 : Hw} (st : HStep a H W H1 W1) (n : NewN H1 p) : Nu a H W p := by
  by_cases hf : p ∈ foot a W
  · exact .inr hf
  · exact .inl (st.new n hf)
/-- what a call answers, and the house behind it -/
def Ans (c : Cs) (T : List (Addr × Str)) (a : Addr) (H : Hp) (W : Hw) (r : House × Sq31.Out) (Q : VK) : Prop := ∀ (H' : Hp) (W' : Hw) (s' : S) (p : Addr), HouseAt c H' a W' s' → Fine s' r.1 → HStep a H W H' W' → Tabs T H' → Nu a H W p → p ∉ foot a W' →
  H' p = some (.lst ((r.2.value :: r.2.out).map V.int)) → Q (.ref p) H'
structure Pre (c : Cs) (T : List (Addr × Str)) (H : Hp) (a : Addr) (W : Hw) (s : S) (h : House) : Prop where
  at_ : HouseAt c H a W s
  fine : Fine s h
  tabs : Tabs T H
section
variable {c : Cs} {T : List (Addr × Str)} {a : Addr} {H H1 : Hp} {W : Hw} {s : S} {h : House} {Q : VK}
theorem Pre.ext (p : Pre c T H a W s h) (e : ExtN H H1) (t : Tabs T H1) : Pre c T H1 a W s h := ⟨p.at_.ext e, p.fine, t⟩
theorem Pre.same (p : Pre c T H a W s h) (e : Same H H1) : Pre c T H1 a W s h := ⟨p.at_.ext (extN_of_same e), p.fine, p.tabs.ext e⟩
/-- nothing is changed -/
theorem Ans.read {o : Sq31.Out} (q : Ans c T a H W (h, o) Q) (pre : Pre c T H a W s h) (e : ExtN H H1) (t : Tabs T H1) {p : Addr} (np : NewN H p) (hp : H1 p = some (.lst ((o.value :: o.out).map V.int))) : Q (.ref p) H1 :=
  q H1 W s p (pre.at_.ext e) pre.fine (HStep.ext e) t (.inl np) (pre.at_.new_out np) hp
theorem Ans.says {z : Int} (q : Ans c T a H W (h, Sq31.says z) Q) (pre : Pre c T H a W s h) (e : ExtN H H1) (t : Tabs T H1) {p : Addr} (np : H1 p = none) : Q (.ref p) (upd H1 p (.lst [V.int z])) :=
  q.read pre (ExtN.new e np) (Tabs.new t np) (NewN.of e np) upd_same
theorem Fine.does (f : Fine s h) {k : Nat} (hk : k < s.known.length) (hz : s.done.length < 120) {act : Sq31.Act} (ht : ∀ j, (newDeed s k act).of_ = some j → ∃ e, s.done[j]? = some e ∧ ownMove k e = true) : Fine (s.does k act) (h.does k act) := by
  refine ⟨f.good.does hk ht, ?_, ?_⟩
  · show (s.done ++ [_]).length ≤ 120
    rw [List.length_append]
    exact hz
  · show (s.known.set k _).length ≤ 8
    rw [List.length_set]
    exact f.few
theorem Fine.len (f : Fine s h) : h.desks.length = s.known.length := f.good.len
theorem Fine.all (f : Fine s h) : h.all.length = s.done.length := by rw [f.good.all]
end
section
variable {P : Program} {w : World} {K : PySem.W.Frag} {mg : Str → Option Value} {base : Heap} {c : Cs} {Tb : List (Addr × Str)}
/-! ### begin -/
def spBegin (c : Cs) (T : List (Addr × Str)) : Sp := fun vs H Q _ => ∃ (a : Addr) (W : Hw) (s : S) (h : House) (n : Nat), vs = [.ref a, I n] ∧ Pre c T H a W s h ∧ Ans c T a H W (h.step (.begin_ n)) Q
abbrev s_begin : Stmt := top 39
theorem sc_begin : FnScope ["house", "desks"] ["house", "desks"] (defScope s_begin) := ⟨rfl, rfl, rfl, by decide +kernel, rfl, by decide +kernel, by decide +kernel⟩
theorem ok_begin {f : Addr} {fd : FuncData} (F : L2.Fun K "begin" "begin" s_begin f fd) (TD : TxtD mg) (mS : C8.Met P w K mg base 1 c.H "start" (spStart c Tb) []) : FnOk P w K mg base L2.CX0 2 f fd ["house", "desks"] (spBegin c Tb) := by
  obtain ⟨t1, h1⟩ := TD.mostDesks
  obtain ⟨t2, h2⟩ := TD.notGranted
  refine F.ok sc_begin (fun vs H Q E h => ?_) fun cdv A outer s H vs Q E hr h => ⟨_, pss_cons (ps_if (PW.pt (pw_or (pt_cmpR op_lt (pv 1) pe_int (nomark _)) (pw_or1 (pt_cmpR op_gt (pv 1) (pe_glob (v := .int 8) rfl h1 ⟨_, rfl⟩) (nomark _))))) (pss_one (ps_ret (pe_lst (pa_cons (pe_glob (v := .int (-1)) rfl h2 ⟨_, rfl⟩) pa_nil)))) pss_nil)
    (pss_cons (ps_expr (C8.pe_mt mS hr (Nat.le_refl _) (pv 0) (pa_cons (pv 1) pa_nil))) (pss_one (ps_ret (pe_lst (pa_cons pe_int pa_nil))))), ?_⟩
  · obtain ⟨a, W, s, h, n, rfl, _⟩ := h
    rfl
  obtain ⟨a, W, s, h, n, rfl, pre, q⟩ := h
  refine (⟨_, rfl, _, _, rfl, rfl, _, rfl, ?_⟩)
  by_cases hn : n = 0
  · have e : h.step (.begin_ n) = (h, Sq31.says (-1)) := if_pos (.inl hn)
    rw [e] at q
    have : decide ((n : Int) < 1) = true := decide_eq_true (by omega)
    rw [this]
    exact iteT (iteT ⟨(by show 1 ≤ sizeLine; decide), fun p np => q.says pre (ExtN.refl H) pre.tabs np⟩)
  · have : decide ((n : Int) < 1) = false := decide_eq_false (by omega)
    rw [this]
    refine iteF ⟨_, rfl, _, _, rfl, rfl, _, rfl, ?_⟩
    by_cases hn2 : 8 < n
    · have e : h.step (.begin_ n) = (h, Sq31.says (-1)) := if_pos (.inr hn2)
      rw [e] at q
      have : decide ((8 : Int) < (n : Int)) = true := decide_eq_true (by omega)
      rw [this]
      exact iteT ⟨(by show 1 ≤ sizeLine; decide), fun p np => q.says pre (ExtN.refl H) pre.tabs np⟩
    · have e : h.step (.begin_ n) = (⟨[], List.replicate n []⟩, Sq31.says 0) := if_neg (fun z => z.elim hn hn2)
      rw [e] at q
      have : decide ((8 : Int) < (n : Int)) = false := decide_eq_false (by omega)
      rw [this]
      refine iteF ⟨_, rfl, a, _, _, rfl, pre.at_.ins, hF_no (by decide +kernel) (by decide +kernel), _, rfl, a, W, s, n, rfl, pre.at_, by omega, pre.tabs, fun H1 W1 hh1 st1 t1 => ?_⟩
      refine ⟨(by show 1 ≤ sizeLine; decide), fun p np => ?_⟩
      have e2 := same_new (o := .lst [V.int 0]) (Same.refl H1) np
      have nn : p ∉ foot a W1 := hh1.new_out (NewN.none np)
      exact q _ W1 _ p (hh1.ext (extN_of_same e2)) ⟨Good.begin_ n, by show 0 ≤ 120; decide, by show (List.replicate n []).length ≤ 8; rw [List.length_replicate]; omega⟩ (st1.trans (HStep.same e2)) (t1.ext e2) (st1.nu (NewN.none np)) nn upd_same
/-! ### is_granted -/
def okMove (x u v : Nat) : Bool := (decide (1 < x) && decide (x ≤ 63)) && (decide (u ≤ 63) && decide (v ≤ 1000000000))
def spGranted : Sp := fun vs H Q _ => ∃ x u v : Nat, vs = [I x, I u, I v] ∧ Q (.bl (okMove x u v)) H
abbrev s_is_granted : Stmt := top 40
theorem sc_is_granted : FnScope ["thing", "under", "label"] ["thing", "under", "label"] (defScope s_is_granted) := ⟨rfl, rfl, rfl, by decide +kernel, rfl, by decide +kernel, by decide +kernel⟩
theorem ok_is_granted {f : Addr} {fd : FuncData} {k : Nat} (F : L2.Fun K "is_granted" "is_granted" s_is_granted f fd) (TC : TxtC mg) (TD : TxtD mg) : FnOk P w K mg base L2.CX0 (k + 1) f fd ["thing", "under", "label"] spGranted := by
  obtain ⟨t1, h1⟩ := TC.bin
  obtain ⟨t2, h2⟩ := TC.last
  obtain ⟨t3, h3⟩ := TD.mostLabel
  refine F.ok sc_is_granted (fun vs H Q E h => ?_) fun cdv A outer s H vs Q E hr h => ⟨_, pss_one (ps_ret (pe_and (pe_chain op_lt op_le (pe_glob (v := .int 1) rfl h1 ⟨_, rfl⟩) (pv 0) (pe_glob (v := .int 63) rfl h2 ⟨_, rfl⟩)) (pe_and (pe_cmpR op_le (pv 1) (pe_glob (v := .int 63) rfl h2 ⟨_, rfl⟩) (nomark _)) (pe_one (pe_cmpR op_le (pv 2) (pe_glob (v := .int 1000000000) rfl h3 ⟨_, rfl⟩) (nomark _)))))), ?_⟩
  · obtain ⟨x, u, v, rfl, _⟩ := h
    rfl
  obtain ⟨x, u, v, rfl, q⟩ := h
  unfold okMove at q
  have e1 : decide ((1 : Int) < (x : Int)) = decide (1 < x) := dec_lt 1 x
  have e2 : decide ((x : Int) ≤ (63 : Int)) = decide (x ≤ 63) := dec_le x 63
  have e3 : decide ((u : Int) ≤ (63 : Int)) = decide (u ≤ 63) := dec_le u 63
  have e4 : decide ((v : Int) ≤ (1000000000 : Int)) = decide (v ≤ 1000000000) := dec_le v 1000000000
  refine (⟨_, rfl, _, _, rfl, rfl, _, rfl, ?_⟩)
  rw [e1]
  cases d1 : decide (1 < x) with
  | false =>
    rw [d1] at q
    exact iteF ⟨_, rfl, iteF q⟩
  | true =>
    rw [d1] at q
    refine iteT ⟨_, _, rfl, rfl, _, rfl, ?_⟩
    rw [e2]
    cases d2 : decide (x ≤ 63) with
    | false =>
      rw [d2] at q
      exact iteF q
    | true =>
      rw [d2] at q
      refine iteT ⟨_, rfl, _, _, rfl, rfl, _, rfl, ?_⟩
      rw [e3]
      cases d3 : decide (u ≤ 63) with
      | false =>
        rw [d3] at q
        exact iteF q
      | true =>
        rw [d3, ← e4] at q
        exact iteT ⟨_, rfl, _, _, rfl, rfl, q⟩
/-! ### move -/
def spMove (c : Cs) (T : List (Addr × Str)) : Sp := fun vs H Q _ => ∃ (a : Addr) (W : Hw) (s : S) (h : House) (k x u v : Nat), vs = [.ref a, I k, I x, I u, I v] ∧ Pre c T H a W s h ∧ Ans c T a H W (h.step (.move k x u v)) Q
abbrev s_move : Stmt := top 41
theorem sc_move : FnScope ["house", "desk", "thing", "under", "label", "tree", "deed"] ["house", "desk", "thing", "under", "label"] (defScope s_move) := ⟨rfl, rfl, rfl, by decide +kernel, rfl, by decide +kernel, by decide +kernel⟩
theorem ok_move {f : Addr} {fd : FuncData} (F : L2.Fun K "move" "move" s_move f fd) (T : Txt K mg c) (TD : TxtD mg) (mH : C8.Met P w K mg base 1 c.H "has_desk" (spHasDesk c) []) (cG : C8.Cal P w K mg base 1 "is_granted" spGranted []) (mF : C8.Met P w K mg base 1 c.H "is_full" (spIsFull c) [])
    (mT : C8.Met P w K mg base 4 c.H "tree_at" (spTreeAt c Tb) []) (mA : C8.Met P w K mg base 3 c.H "add_move" (spAddMove c Tb) []) (cD : C8.Cal P w K mg base 2 "do_move" (spDoMove c) []) : FnOk P w K mg base L2.CX0 5 f fd ["house", "desk", "thing", "under", "label"] (spMove c Tb) := by
  obtain ⟨t1, h1⟩ := TD.notFound
  obtain ⟨t2, h2⟩ := TD.notGranted
  obtain ⟨t3, h3⟩ := TD.tooMany
  refine F.ok sc_move (fun vs H Q E h => ?_) fun cdv A outer s H vs Q E hr h => ⟨_, pss_cons (ps_if (pt_not (pt_val (C8.pe_mt mH hr (by decide) (pv 0) (pa_cons (pv 1) pa_nil)))) (pss_one (ps_ret (pe_lst (pa_cons (pe_glob (v := .int (-2)) rfl h1 ⟨_, rfl⟩) pa_nil)))) pss_nil)
    (pss_cons (ps_if (pt_not (pt_val (C8.pe_c cG hr (by decide) rfl (pa_cons (pv 2) (pa_cons (pv 3) (pa_cons (pv 4) pa_nil)))))) (pss_one (ps_ret (pe_lst (pa_cons (pe_glob (v := .int (-1)) rfl h2 ⟨_, rfl⟩) pa_nil)))) pss_nil)
    (pss_cons (ps_if (pt_val (C8.pe_mt0 mF hr (by decide) (pv 0))) (pss_one (ps_ret (pe_lst (pa_cons (pe_glob (v := .int (-5)) rfl h3 ⟨_, rfl⟩) pa_nil)))) pss_nil)
    (pss_cons (ps_set (i := 5) sc_move.nd rfl (.inl rfl) (C8.pe_mt mT hr (Nat.le_refl _) (pv 0) (pa_cons (pv 1) pa_nil)))
    (pss_cons (ps_set (i := 6) sc_move.nd rfl (.inl rfl) (C8.pe_mt mA hr (by decide) (pv 0) (pa_cons (pv 1) (pa_cons (pv 2) (pa_cons (pv 3) (pa_cons (pv 4) pa_nil))))))
    (pss_one (ps_ret (pe_lst (pa_cons (pe_fld (pv 6) rfl) (pa_cons (C8.pe_c cD hr (by decide) rfl (pa_cons (pv 5) (pa_cons (pv 6) pa_nil))) pa_nil))))))))), ?_⟩
  · obtain ⟨a, W, s, h, k, x, u, v, rfl, _⟩ := h
    rfl
  obtain ⟨a, W, s, h, k, x, u, v, rfl, pre, q⟩ := h
  have hh := pre.at_
  refine ⟨_, rfl, a, _, _, rfl, hh.ins, hF_no (by decide +kernel) (by decide +kernel), _, rfl, a, W, s, k, rfl, hh, _, rfl, ?_⟩
  by_cases hk : k < s.known.length
  case neg =>
    have e : h.step (.move k x u v) = (h, Sq31.says (-2)) := if_pos (by rw [pre.fine.len]; omega)
    rw [e] at q
    rw [decide_eq_false hk]
    exact iteT ⟨(by show 1 ≤ sizeLine; decide), fun p np => q.says pre (ExtN.refl H) pre.tabs np⟩
  rw [decide_eq_true hk]
  have e0 : ¬ h.desks.length ≤ k := by rw [pre.fine.len]; omega
  refine iteF ⟨_, rfl, _, rfl, _, rfl, x, u, v, rfl, _, rfl, ?_⟩
  cases hg : okMove x u v with
  | false =>
    have bad : x < 2 ∨ Sq28.THINGS ≤ x ∨ Sq28.THINGS ≤ u ∨ Sq28.LABEL < v := by
      unfold okMove at hg
      refine Classical.byContradiction fun z => ?_
      have hT : Sq28.THINGS = 64 := rfl
      have hL : Sq28.LABEL = 1000000000 := rfl
      rw [hT, hL] at z
      have : ((decide (1 < x) && decide (x ≤ 63)) && (decide (u ≤ 63) && decide (v ≤ 1000000000))) = true := by
        rw [decide_eq_true (show 1 < x by omega), decide_eq_true (show x ≤ 63 by omega), decide_eq_true (show u ≤ 63 by omega), decide_eq_true (show v ≤ 1000000000 by omega)]
        rfl
      rw [this] at hg
      cases hg
    have e : h.step (.move k x u v) = (h, Sq31.says (-1)) := (if_neg e0).trans (if_pos bad)
    rw [e] at q
    exact iteT ⟨(by show 1 ≤ sizeLine; decide), fun p np => q.says pre (ExtN.refl H) pre.tabs np⟩
  | true =>
    have good : ¬ (x < 2 ∨ Sq28.THINGS ≤ x ∨ Sq28.THINGS ≤ u ∨ Sq28.LABEL < v) := by
      unfold okMove at hg
      rw [Bool.and_eq_true, Bool.and_eq_true, Bool.and_eq_true] at hg
      have a1 := of_decide_eq_true hg.1.1
      have a2 := of_decide_eq_true hg.1.2
      have a3 := of_decide_eq_true hg.2.1
      have a4 := of_decide_eq_true hg.2.2
      have hT : Sq28.THINGS = 64 := rfl
      have hL : Sq28.LABEL = 1000000000 := rfl
      rw [hT, hL]
      omega
    refine iteF ⟨_, rfl, a, _, _, rfl, hh.ins, hF_no (by decide +kernel) (by decide +kernel), a, W, s, rfl, hh, _, rfl, ?_⟩
    by_cases hz : 120 ≤ s.done.length
    · have e : h.step (.move k x u v) = (h, Sq31.says (-5)) := ((if_neg e0).trans (if_neg good)).trans (if_pos (by rw [pre.fine.all]; exact hz))
      rw [e] at q
      rw [decide_eq_true hz]
      exact iteT ⟨(by show 1 ≤ sizeLine; decide), fun p np => q.says pre (ExtN.refl H) pre.tabs np⟩
    · have e : h.step (.move k x u v) = (h.does k (.move x u v), ⟨h.all.length, [(Sq28.outcome (h.tree k) ⟨h.all.length, ⟨h.next k, k⟩, x, u, v⟩ : Int)]⟩) := ((if_neg e0).trans (if_neg good)).trans (if_neg (by rw [pre.fine.all]; exact hz))
      rw [e] at q
      rw [decide_eq_false hz]
      refine iteF ⟨_, rfl, a, _, _, rfl, hh.ins, hF_no (by decide +kernel) (by decide +kernel), _, rfl, a, W, s, h, k, rfl, hh, pre.fine, hk, pre.tabs, fun H1 p1 e1 t1 n1 ht1 => ?_⟩
      have pre1 := pre.ext e1 t1
      refine ⟨_, rfl, a, _, _, rfl, pre1.at_.ins, hF_no (by decide +kernel) (by decide +kernel), _, rfl, _, rfl, _, rfl, _, rfl, k, x, u, v, a, W, s, h, rfl, pre1.at_, pre.fine, hk, by omega, t1, fun H2 W2 p2 hh2 st2 t2 hd2 => ?_⟩
      have ht2 := pre1.at_.tree st2 ht1 (pre.at_.new_out n1)
      have hd2' := hd2
      obtain ⟨dx, tt, d1, d2⟩ := hd2
      refine ⟨_, rfl, p2, _, dx, _, _, rfl, d1, T.cl _, T.nNumber _, dF_number tt _, _, rfl, _, rfl, p1, p2, newDeed s k (.move x u v), x, u, v, h.tree k, 900, rfl, hd2', rfl, ht2, by decide, wf_treeOf _, fun H3 e3 ht3 => ?_⟩
      refine ⟨(by show 2 ≤ sizeLine; decide), fun p np => ?_⟩
      -- the tree that was made for it lies outside
      have p1out : p1 ∉ foot a W2 := by
        obtain ⟨kvs, hk1, _⟩ := ht1
        exact st2.out hk1 notTbl_dK (pre.at_.new_out n1)
      have hp12 : H2 p1 ≠ none := by
        obtain ⟨kvs, hk1, _⟩ := ht2
        rw [hk1]
        exact fun z => by cases z
      have hh3 : HouseAt c H3 a W2 (s.does k (.move x u v)) := by
        refine ⟨e3 _ _ hh2.ins (fun z => p1out (by rw [← z]; exact List.mem_cons_self)), e3 _ _ hh2.done (fun z => p1out (by rw [← z]; exact List.mem_cons_of_mem _ List.mem_cons_self)), fun r hr => ?_, hh2.secs, e3 _ _ hh2.known (fun z => p1out (by rw [← z]; exact List.mem_cons_of_mem _ (List.mem_cons_of_mem _ List.mem_cons_self))), hh2.ne, hh2.nd, hh2.len, fun j b l z1 z2 => e3 _ _ (hh2.dict j b l z1 z2) (fun z => p1out (by rw [← z]; exact List.mem_cons_of_mem _ (List.mem_cons_of_mem _ (List.mem_cons_of_mem _ (List.mem_of_getElem? z1)))))⟩
        obtain ⟨kvs, hk1, _⟩ := ht2
        obtain ⟨dx, tt, d1, d2⟩ := hh2.rows r hr
        exact ⟨dx, tt, e3 _ _ d1 (fun z => by rw [z, hk1] at d1; cases d1), e3 _ _ d2 (fun z => by rw [z, hk1] at d2; cases d2)⟩
      have t3 : Tabs Tb H3 := fun z hz => by
        obtain ⟨kvs, hk1, _⟩ := ht2
        obtain ⟨ps, a1, a2, a3⟩ := t2 z hz
        refine ⟨ps, e3 _ _ a1 (fun e => by rw [e, hk1] at a1; cases a1), a2, fun pos cv hc => ?_⟩
        obtain ⟨cc, x1, x2⟩ := a3 pos cv hc
        exact ⟨cc, x1, e3 _ _ x2 (fun e => by rw [e, hk1] at x2; exact dK_code _ _ (Option.some.inj x2))⟩
      have st12 : HStep a H W H2 W2 := (HStep.ext e1).trans st2
      have st3 : HStep a H W H3 W2 := ⟨fun b hb => st12.sub b hb, fun b o hb ho hf => e3 _ _ (st12.keep b o hb ho hf) (fun z => by rw [z] at hb; obtain ⟨ps, e⟩ := n1 o hb; exact ho ps e)⟩
      have e4 := same_new (o := .lst [I (newDeed s k (.move x u v)).id, I (Sq28.outcome (h.tree k) (md (newDeed s k (.move x u v)) x u v))]) (Same.refl H3) np
      refine q _ W2 _ p (hh3.ext (extN_of_same e4)) (pre.fine.does hk (by omega) (fun j hj => by cases hj)) (st3.trans (HStep.same e4)) (t3.ext e4) (st3.nu (NewN.none np)) (hh3.new_out (NewN.none np)) ?_
      rw [upd_same]
      have e5 : (⟨h.all.length, ⟨h.next k, k⟩, x, u, v⟩ : Sq28.Deed) = md (newDeed s k (.move x u v)) x u v := by
        rw [pre.fine.good.next, pre.fine.all]
        rfl
      rw [e5, pre.fine.all]
      rfl
end
end Hb
end

section
set_option Elab.async false
set_option linter.all false
set_option maxRecDepth 100000
set_option maxHeartbeats 2500000
namespace Hb
open L2 PySem PySem.Spec PyProof.Rows LamX
open Sq31 (Deed House)
theorem ints_map (l : List Nat) : (Sq31.ints l).map V.int = l.map I := by
  unfold Sq31.ints
  rw [List.map_map]
  rfl
theorem else_len (t u : Sq28.Tree) : (Sq31.otherwise t u).length ≤ 64 := by
  unfold Sq31.otherwise
  have := List.length_filter_le (fun x => Sq31.place t x != Sq31.place u x) (List.range Sq28.THINGS)
  rw [List.length_range] at this
  exact this
section
variable {P : Program} {w : World} {K : PySem.W.Frag} {mg : Str → Option Value} {base : Heap} {c : Cs} {Tb : List (Addr × Str)}
/-! ### turn -/
def turnOut (h : House) (k i : Nat) (b : Bool) : House × Sq31.Out := if 120 ≤ h.all.length then (h, Sq31.says (-5)) else (h.does k (turnAct i b), h.tells (h.does k (turnAct i b)) k i)
def spTurn (c : Cs) (T : List (Addr × Str)) : Sp := fun vs H Q _ => ∃ (a : Addr) (W : Hw) (s : S) (h : House) (k i : Nat) (b : Bool), vs = [.ref a, I k, I i, .bl b] ∧ Pre c T H a W s h ∧ k < s.known.length ∧ (∃ e, s.done[i]? = some e ∧ ownMove k e = true) ∧ Ans c T a H W (turnOut h k i b) Q
abbrev s_turn : Stmt := top 42
theorem sc_turn : FnScope ["house", "desk", "number", "to_hold", "before"] ["house", "desk", "number", "to_hold"] (defScope s_turn) := ⟨rfl, rfl, rfl, by decide +kernel, rfl, by decide +kernel, by decide +kernel⟩
theorem ok_turn {f : Addr} {fd : FuncData} (F : L2.Fun K "turn" "turn" s_turn f fd) (TD : TxtD mg) (mF : C8.Met P w K mg base 1 c.H "is_full" (spIsFull c) []) (mT : C8.Met P w K mg base 4 c.H "tree_at" (spTreeAt c Tb) []) (mA : C8.Met P w K mg base 3 c.H "add_turn" (spAddTurn c Tb) []) (cE : C8.Cal P w K mg base 1 "elsewhere" (spElse K) []) :
    FnOk P w K mg base L2.CX0 5 f fd ["house", "desk", "number", "to_hold"] (spTurn c Tb) := by
  obtain ⟨t3, h3⟩ := TD.tooMany
  refine F.ok sc_turn (fun vs H Q E h => ?_) fun cdv A outer s H vs Q E hr h => ⟨_, pss_cons (ps_if (pt_val (C8.pe_mt0 mF hr (by decide) (pv 0))) (pss_one (ps_ret (pe_lst (pa_cons (pe_glob (v := .int (-5)) rfl h3 ⟨_, rfl⟩) pa_nil)))) pss_nil)
    (pss_cons (ps_set (i := 4) sc_turn.nd rfl (.inl rfl) (C8.pe_mt mT hr (Nat.le_refl _) (pv 0) (pa_cons (pv 1) pa_nil)))
    (pss_cons (ps_expr (C8.pe_mt mA hr (by decide) (pv 0) (pa_cons (pv 1) (pa_cons (pv 2) (pa_cons (pv 3) pa_nil)))))
    (pss_one (ps_ret (pe_op op_cat (pe_lst (pa_cons (pv 2) pa_nil)) (C8.pe_c cE hr (by decide) rfl (pa_cons (pv 4) (pa_cons (C8.pe_mt mT hr (Nat.le_refl _) (pv 0) (pa_cons (pv 1) pa_nil)) pa_nil)))))))), ?_⟩
  · obtain ⟨a, W, s, h, k, i, b, rfl, _⟩ := h
    rfl
  obtain ⟨a, W, s, h, k, i, b, rfl, pre, hk, hown, q⟩ := h
  have hh := pre.at_
  refine ⟨_, rfl, a, _, _, rfl, hh.ins, hF_no (by decide +kernel) (by decide +kernel), a, W, s, rfl, hh, _, rfl, ?_⟩
  by_cases hz : 120 ≤ s.done.length
  · have e : turnOut h k i b = (h, Sq31.says (-5)) := if_pos (by rw [pre.fine.all]; exact hz)
    rw [e] at q
    rw [decide_eq_true hz]
    exact iteT ⟨(by show 1 ≤ sizeLine; decide), fun p np => q.says pre (ExtN.refl H) pre.tabs np⟩
  · have e : turnOut h k i b = (h.does k (turnAct i b), h.tells (h.does k (turnAct i b)) k i) := if_neg (by rw [pre.fine.all]; exact hz)
    rw [e] at q
    rw [decide_eq_false hz]
    refine iteF ⟨_, rfl, a, _, _, rfl, hh.ins, hF_no (by decide +kernel) (by decide +kernel), _, rfl, a, W, s, h, k, rfl, hh, pre.fine, hk, pre.tabs, fun H1 p1 e1 t1 n1 ht1 => ?_⟩
    have pre1 := pre.ext e1 t1
    refine ⟨_, rfl, a, _, _, rfl, pre1.at_.ins, hF_no (by decide +kernel) (by decide +kernel), _, rfl, _, rfl, _, rfl, k, i, b, a, W, s, h, rfl, pre1.at_, pre.fine, hk, by omega, t1, fun H2 W2 p2 hh2 st2 t2 hd2 => ?_⟩
    have ht2 := pre1.at_.tree st2 ht1 (pre.at_.new_out n1)
    have f2 : Fine (s.does k (turnAct i b)) (h.does k (turnAct i b)) := pre.fine.does hk (by omega) fun j hj => by
      have : j = i := by
        cases b
        · exact (Option.some.inj hj).symm
        · exact (Option.some.inj hj).symm
      rw [this]
      exact hown
    have hk2 : k < (s.does k (turnAct i b)).known.length := by show k < (s.known.set k _).length; rw [List.length_set]; exact hk
    have st12 : HStep a H W H2 W2 := (HStep.ext e1).trans st2
    refine ⟨_, rfl, (by show 1 ≤ sizeLine; decide), fun l nl => ?_⟩
    have e2 := same_new (o := .lst [I i]) (Same.refl H2) nl
    have hl : upd H2 l (.lst [I i]) l = some (.lst [I i]) := upd_same
    have nl0 : Nu a H W l := st12.nu (NewN.none nl)
    generalize upd H2 l (.lst [I i]) = H3 at e2 hl
    have hh3 := hh2.ext (extN_of_same e2)
    refine ⟨_, rfl, _, rfl, a, _, _, rfl, hh3.ins, hF_no (by decide +kernel) (by decide +kernel), _, rfl, a, W2, _, h.does k (turnAct i b), k, rfl, hh3, f2, hk2, t2.ext e2, fun H4 p4 e4 t4 n4 ht4 => ?_⟩
    refine ⟨p1, p4, _, _, 900, 900, rfl, (ht2.ext (extN_of_same e2)).ext e4, ht4, fun H5 p5 e5 n5 hp5 => ?_⟩
    have e45 : ExtN H3 H5 := e4.trans (extN_of_same e5)
    have hl5 : H5 l = some (.lst [I i]) := e45 _ _ hl notTbl_lst
    have elen := else_len (h.tree k) ((h.does k (turnAct i b)).tree k)
    refine ⟨l, p5, _, _, rfl, rfl, hl5, hp5, by rw [List.length_map, sizeLine_eq]; show 1 + _ ≤ _; omega, fun p np => ?_⟩
    have e25 : ExtN H2 H5 := (extN_of_same e2).trans e45
    have stp : HStep a H W H5 W2 := st12.trans (HStep.ext e25)
    have e6 := same_new (o := .lst ([I i] ++ (Sq31.otherwise (h.tree k) ((h.does k (turnAct i b)).tree k)).map I)) (Same.refl H5) np
    have hh5 := hh2.ext e25
    refine q _ W2 _ p (hh5.ext (extN_of_same e6)) f2 (stp.trans (HStep.same e6)) ((t4.ext e5).ext e6) (stp.nu (NewN.none np)) (hh5.new_out (NewN.none np)) ?_
    rw [upd_same]
    show _ = some (HO.lst (V.int i :: (Sq31.ints (Sq31.otherwise (h.tree k) ((h.does k (turnAct i b)).tree k))).map V.int))
    rw [ints_map]
    rfl
/-! ### refusal_to_turn -/
def refusal (h : House) (k i : Nat) (b : Bool) : Option Int := if h.desks.length ≤ k then some (-2) else match h.mine k i with
  | none => some (-3)
  | some d => if Sq31.holds (h.desk k) d = b then some (-4) else none
def optZ : Option Int → V
  | none => .non
  | some z => .int z
def spRefusal (c : Cs) (T : List (Addr × Str)) : Sp := fun vs H Q _ => ∃ (a : Addr) (W : Hw) (s : S) (h : House) (k i : Nat) (b : Bool), vs = [.ref a, I k, I i, .bl b] ∧ Pre c T H a W s h ∧ ∀ H' : Hp, ExtN H H' → Tabs T H' → Q (optZ (refusal h k i b)) H'
abbrev s_refusal : Stmt := top 43
theorem sc_refusal : FnScope ["house", "desk", "number", "to_hold"] ["house", "desk", "number", "to_hold"] (defScope s_refusal) := ⟨rfl, rfl, rfl, by decide +kernel, rfl, by decide +kernel, by decide +kernel⟩
theorem ok_refusal {f : Addr} {fd : FuncData} (F : L2.Fun K "refusal_to_turn" "refusal_to_turn" s_refusal f fd) (TD : TxtD mg) (mH : C8.Met P w K mg base 1 c.H "has_desk" (spHasDesk c) []) (mO : C8.Met P w K mg base 2 c.H "has_own_move" (spHasOwn c) []) (mK : C8.Met P w K mg base 1 c.H "known_deeds" (spKnown K c) []) (cH : C8.Cal P w K mg base 3 "holds" (spHolds K c Tb) []) :
    FnOk P w K mg base L2.CX0 4 f fd ["house", "desk", "number", "to_hold"] (spRefusal c Tb) := by
  obtain ⟨t1, h1⟩ := TD.notFound
  obtain ⟨t2, h2⟩ := TD.noMove
  obtain ⟨t3, h3⟩ := TD.alreadySo
  refine F.ok sc_refusal (fun vs H Q E h => ?_) fun cdv A outer s H vs Q E hr h => ⟨_, pss_cons (ps_if (pt_not (pt_val (C8.pe_mt mH hr (by decide) (pv 0) (pa_cons (pv 1) pa_nil)))) (pss_one (ps_ret (pe_glob (v := .int (-2)) rfl h1 ⟨_, rfl⟩))) pss_nil)
    (pss_cons (ps_if (pt_not (pt_val (C8.pe_mt mO hr (by decide) (pv 0) (pa_cons (pv 1) (pa_cons (pv 2) pa_nil))))) (pss_one (ps_ret (pe_glob (v := .int (-3)) rfl h2 ⟨_, rfl⟩))) pss_nil)
    (pss_cons (ps_if (pt_cmpR op_eq (C8.pe_c cH hr (Nat.le_refl _) rfl (pa_cons (pv 2) (pa_cons (C8.pe_mt mK hr (by decide) (pv 0) (pa_cons (pv 1) pa_nil)) pa_nil))) (pv 3) (nomark _)) (pss_one (ps_ret (pe_glob (v := .int (-4)) rfl h3 ⟨_, rfl⟩))) pss_nil)
    (pss_one (ps_ret pe_non)))), ?_⟩
  · obtain ⟨a, W, s, h, k, i, b, rfl, _⟩ := h
    rfl
  obtain ⟨a, W, s, h, k, i, b, rfl, pre, q⟩ := h
  have hh := pre.at_
  refine ⟨_, rfl, a, _, _, rfl, hh.ins, hF_no (by decide +kernel) (by decide +kernel), _, rfl, a, W, s, k, rfl, hh, _, rfl, ?_⟩
  by_cases hk : k < s.known.length
  case neg =>
    have e : refusal h k i b = some (-2) := if_pos (by rw [pre.fine.len]; omega)
    rw [e] at q
    rw [decide_eq_false hk]
    exact iteT (q H (ExtN.refl H) pre.tabs)
  rw [decide_eq_true hk]
  have e0 : ¬ h.desks.length ≤ k := by rw [pre.fine.len]; omega
  refine iteF ⟨_, rfl, a, _, _, rfl, hh.ins, hF_no (by decide +kernel) (by decide +kernel), _, rfl, _, rfl, a, W, s, k, i, rfl, hh, _, rfl, ?_⟩
  have hm := pre.fine.good.mine k i
  have er : refusal h k i b = match h.mine k i with
    | none => some (-3)
    | some d => if Sq31.holds (h.desk k) d = b then some (-4) else none := if_neg e0
  cases ho : (s.done[i]?).any (ownMove k) with
  | false =>
    have : h.mine k i = none := by
      rw [hm]
      cases z : s.done[i]? with
      | none => rfl
      | some d =>
        rw [z] at ho
        exact Option.filter_some_neg (by rw [show ownMove k d = false from ho])
    rw [er, this] at q
    exact iteT (q H (ExtN.refl H) pre.tabs)
  | true =>
    obtain ⟨d, hd, hmd⟩ : ∃ d, s.done[i]? = some d ∧ h.mine k i = some d := by
      cases z : s.done[i]? with
      | none => rw [z] at ho; cases ho
      | some d =>
        rw [z] at ho
        refine ⟨d, rfl, ?_⟩
        rw [hm, z]
        exact Option.filter_some_pos ho
    rw [er, hmd] at q
    dsimp only at q
    refine iteF ⟨_, rfl, _, rfl, a, _, _, rfl, hh.ins, hF_no (by decide +kernel) (by decide +kernel), _, rfl, a, W, s, k, rfl, hh, hk, pre.fine.good.lt k, Nat.le_trans (pre.fine.ks k) (by decide), fun H1 p1 L e1 n1 hp1 hr1 hs1 => ?_⟩
    have hl := sec_len pre.fine hs1
    refine ⟨i, p1, L, rfl, SqL.of hp1, hr1, pre.tabs.ext e1, by omega, fun H2 e2 t2 => ?_⟩
    have e12 : ExtN H H2 := (extN_of_same e1).trans e2
    have eh : heldIn (seconds (sortL L)) i = Sq31.holds (h.desk k) d := by
      rw [holds_is, pre.fine.good.desk, seconds_sort, hs1, pre.fine.good.ids i d hd]
    refine (⟨_, rfl, rfl, _, rfl, ?_⟩)
    rw [dec_bl, eh]
    cases hb : (Sq31.holds (h.desk k) d == b) with
    | true =>
      rw [if_pos (by simpa using hb)] at q
      exact iteT (q H2 e12 t2)
    | false =>
      rw [if_neg (by simpa using hb)] at q
      exact iteF (q H2 e12 t2)
theorem own_of_refusal {s : S} {h : House} (f : Fine s h) {k i : Nat} {b : Bool} (e : refusal h k i b = none) : k < s.known.length ∧ ∃ d, h.mine k i = some d ∧ s.done[i]? = some d ∧ ownMove k d = true ∧ ¬ Sq31.holds (h.desk k) d = b := by
  unfold refusal at e
  split at e
  · cases e
  rename_i hk
  rw [f.len] at hk
  refine ⟨Nat.not_le.mp hk, ?_⟩
  have hm := f.good.mine k i
  cases z : h.mine k i with
  | none => rw [z] at e; cases e
  | some d =>
    rw [z] at e hm
    dsimp only at e
    refine ⟨d, rfl, ?_⟩
    cases y : s.done[i]? with
    | none => rw [y] at hm; cases hm
    | some d' =>
      rw [y] at hm
      cases ho : ownMove k d' with
      | false => rw [Option.filter_some_neg (by rw [ho])] at hm; cases hm
      | true =>
        rw [Option.filter_some_pos ho] at hm
        cases hm
        refine ⟨rfl, ho, fun z => ?_⟩
        rw [if_pos z] at e
        cases e
/-! ### turn_named -/
def namedOut (h : House) (k i : Nat) (b : Bool) : House × Sq31.Out := match refusal h k i b with
  | some z => (h, Sq31.says z)
  | none => turnOut h k i b
def spNamed (c : Cs) (T : List (Addr × Str)) : Sp := fun vs H Q _ => ∃ (a : Addr) (W : Hw) (s : S) (h : House) (k i : Nat) (b : Bool), vs = [.ref a, I k, I i, .bl b] ∧ Pre c T H a W s h ∧ Ans c T a H W (namedOut h k i b) Q
abbrev s_named : Stmt := top 44
theorem sc_named : FnScope ["house", "desk", "number", "to_hold", "refusal"] ["house", "desk", "number", "to_hold"] (defScope s_named) := ⟨rfl, rfl, rfl, by decide +kernel, rfl, by decide +kernel, by decide +kernel⟩
/-- seen from before -/
theorem Ans.later {a : Addr} {H H1 : Hp} {W : Hw} {r : House × Sq31.Out} {Q : VK} (q : Ans c Tb a H W r Q) (e : ExtN H H1) : Ans c Tb a H1 W r Q := fun H' W' s' p h1 h2 h3 h4 h5 h6 h7 => by
  refine q H' W' s' p h1 h2 ((HStep.ext e).trans h3) h4 ?_ h6 h7
  rcases h5 with h5 | h5
  · exact (HStep.ext e).nu h5
  · exact .inr h5
theorem ok_named {f : Addr} {fd : FuncData} (F : L2.Fun K "turn_named" "turn_named" s_named f fd) (cR : C8.Cal P w K mg base 4 "refusal_to_turn" (spRefusal c Tb) []) (cT : C8.Cal P w K mg base 5 "turn" (spTurn c Tb) []) : FnOk P w K mg base L2.CX0 6 f fd ["house", "desk", "number", "to_hold"] (spNamed c Tb) := by
  refine F.ok sc_named (fun vs H Q E h => ?_) fun cdv A outer s H vs Q E hr h => ⟨_, pss_cons (ps_set (i := 4) sc_named.nd rfl (.inl rfl) (C8.pe_c cR hr (by decide) rfl (pa_cons (pv 0) (pa_cons (pv 1) (pa_cons (pv 2) (pa_cons (pv 3) pa_nil))))))
    (pss_cons (ps_if (pt_cmpR op_notN (pv 4) pe_non (nomark _)) (pss_one (ps_ret (pe_lst (pa_cons (pv 4) pa_nil)))) pss_nil)
    (pss_one (ps_ret (C8.pe_c cT hr (Nat.le_refl _) rfl (pa_cons (pv 0) (pa_cons (pv 1) (pa_cons (pv 2) (pa_cons (pv 3) pa_nil)))))))), ?_⟩
  · obtain ⟨a, W, s, h, k, i, b, rfl, _⟩ := h
    rfl
  obtain ⟨a, W, s, h, k, i, b, rfl, pre, q⟩ := h
  refine ⟨_, rfl, _, rfl, _, rfl, _, rfl, a, W, s, h, k, i, b, rfl, pre, fun H1 e1 t1 => ?_⟩
  unfold namedOut at q
  cases hz : refusal h k i b with
  | some z =>
    rw [hz] at q
    refine (⟨_, rfl, rfl, _, rfl, ?_⟩)
    have : (!decide (optZ (some z) = V.non)) = true := by
      rw [decide_eq_false (fun y => by cases y)]
      rfl
    rw [this]
    exact iteT ⟨_, rfl, (by show 1 ≤ sizeLine; decide), fun p np => q.says pre e1 t1 np⟩
  | none =>
    rw [hz] at q
    obtain ⟨hk, d, _, hd, hown, _⟩ := own_of_refusal pre.fine hz
    exact ⟨_, rfl, rfl, _, rfl, iteF ⟨_, rfl, _, rfl, _, rfl, _, rfl, a, W, s, h, k, i, b, rfl, pre.ext e1 t1, hk, ⟨d, hd, hown⟩, Ans.later q e1⟩⟩
theorem back_named (h : House) (k i : Nat) : h.step (.back k i) = namedOut h k i false := by
  unfold namedOut refusal
  show (if h.desks.length ≤ k then _ else _) = _
  by_cases hk : h.desks.length ≤ k
  · rw [if_pos hk, if_pos hk]
  · rw [if_neg hk, if_neg hk]
    cases h.mine k i with
    | none => rfl
    | some d =>
      dsimp only
      by_cases hh : Sq31.holds (h.desk k) d = false
      · rw [if_pos hh, if_pos hh]
      · rw [if_neg hh, if_neg hh]
        rfl
theorem again_named (h : House) (k i : Nat) : h.step (.again k i) = namedOut h k i true := by
  unfold namedOut refusal
  show (if h.desks.length ≤ k then _ else _) = _
  by_cases hk : h.desks.length ≤ k
  · rw [if_pos hk, if_pos hk]
  · rw [if_neg hk, if_neg hk]
    cases h.mine k i with
    | none => rfl
    | some d =>
      dsimp only
      by_cases hh : Sq31.holds (h.desk k) d = true
      · rw [if_pos hh, if_pos hh]
      · rw [if_neg hh, if_neg hh]
        rfl
/-! ### undo, redo -/
def spUndoC (c : Cs) (T : List (Addr × Str)) : Sp := fun vs H Q _ => ∃ (a : Addr) (W : Hw) (s : S) (h : House) (k : Nat), vs = [.ref a, I k] ∧ Pre c T H a W s h ∧ Ans c T a H W (h.step (.undo k)) Q
def spRedoC (c : Cs) (T : List (Addr × Str)) : Sp := fun vs H Q _ => ∃ (a : Addr) (W : Hw) (s : S) (h : House) (k : Nat), vs = [.ref a, I k] ∧ Pre c T H a W s h ∧ Ans c T a H W (h.step (.redo k)) Q
abbrev s_undo : Stmt := top 45
abbrev s_redo : Stmt := top 46
theorem sc_undo : FnScope ["house", "desk", "number"] ["house", "desk"] (defScope s_undo) := ⟨rfl, rfl, rfl, by decide +kernel, rfl, by decide +kernel, by decide +kernel⟩
theorem sc_redo : FnScope ["house", "desk", "number"] ["house", "desk"] (defScope s_redo) := ⟨rfl, rfl, rfl, by decide +kernel, rfl, by decide +kernel, by decide +kernel⟩
theorem optV_isN (o : Option Nat) : decide (optV o = V.non) = o.isNone := by
  cases o with
  | none => rfl
  | some n => exact decide_eq_false fun z => by cases z
theorem own_at {s : S} {h : House} (g : Good s h) {k : Nat} {d : Deed} (hd : d ∈ h.own k) : s.done[d.id]? = some d ∧ ownMove k d = true := g.mem_own.mp hd
theorem lastOwn_own {h : House} {k : Nat} {d : Deed} (e : h.lastOwn k = some d) : d ∈ h.own k := by
  unfold House.lastOwn at e
  exact (List.mem_filter.mp (List.mem_of_getLast? e)).1
theorem nextOwn_own {h : House} {k : Nat} {d : Deed} (e : h.nextOwn k = some d) : d ∈ h.own k := by
  unfold House.nextOwn at e
  split at e
  · cases e
  · split at e
    · cases e
    · exact List.mem_of_find?_eq_some e
theorem ok_undo {f : Addr} {fd : FuncData} (F : L2.Fun K "undo" "undo" s_undo f fd) (TD : TxtD mg) (mH : C8.Met P w K mg base 1 c.H "has_desk" (spHasDesk c) []) (mK : C8.Met P w K mg base 1 c.H "known_deeds" (spKnown K c) []) (cU : C8.Cal P w K mg base 4 "move_to_undo" (spUndo K c Tb) []) (cT : C8.Cal P w K mg base 5 "turn" (spTurn c Tb) []) :
    FnOk P w K mg base L2.CX0 6 f fd ["house", "desk"] (spUndoC c Tb) := by
  obtain ⟨t1, h1⟩ := TD.notFound
  obtain ⟨t2, h2⟩ := TD.noMove
  refine F.ok sc_undo (fun vs H Q E h => ?_) fun cdv A outer s H vs Q E hr h => ⟨_, pss_cons (ps_if (pt_not (pt_val (C8.pe_mt mH hr (by decide) (pv 0) (pa_cons (pv 1) pa_nil)))) (pss_one (ps_ret (pe_lst (pa_cons (pe_glob (v := .int (-2)) rfl h1 ⟨_, rfl⟩) pa_nil)))) pss_nil)
    (pss_cons (ps_set (i := 2) sc_undo.nd rfl (.inl rfl) (C8.pe_c cU hr (by decide) rfl (pa_cons (pv 1) (pa_cons (C8.pe_mt mK hr (by decide) (pv 0) (pa_cons (pv 1) pa_nil)) pa_nil))))
    (pss_cons (ps_if (pt_cmpR op_isN (pv 2) pe_non (nomark _)) (pss_one (ps_ret (pe_lst (pa_cons (pe_glob (v := .int (-3)) rfl h2 ⟨_, rfl⟩) pa_nil)))) pss_nil)
    (pss_one (ps_ret (C8.pe_c cT hr (Nat.le_refl _) rfl (pa_cons (pv 0) (pa_cons (pv 1) (pa_cons (pv 2) (pa_cons pe_bl pa_nil))))))))), ?_⟩
  · obtain ⟨a, W, s, h, k, rfl, _⟩ := h
    rfl
  obtain ⟨a, W, s, h, k, rfl, pre, q⟩ := h
  have hh := pre.at_
  refine ⟨_, rfl, a, _, _, rfl, hh.ins, hF_no (by decide +kernel) (by decide +kernel), _, rfl, a, W, s, k, rfl, hh, _, rfl, ?_⟩
  by_cases hk : k < s.known.length
  case neg =>
    have e : h.step (.undo k) = (h, Sq31.says (-2)) := if_pos (by rw [pre.fine.len]; omega)
    rw [e] at q
    rw [decide_eq_false hk]
    exact iteT ⟨(by show 1 ≤ sizeLine; decide), fun p np => q.says pre (ExtN.refl H) pre.tabs np⟩
  rw [decide_eq_true hk]
  have e0 : ¬ h.desks.length ≤ k := by rw [pre.fine.len]; omega
  have es : h.step (.undo k) = match h.lastOwn k with
    | none => (h, Sq31.says (-3))
    | some d => turnOut h k d.id false := (if_neg e0).trans rfl
  rw [es] at q
  refine iteF ⟨_, rfl, _, rfl, a, _, _, rfl, hh.ins, hF_no (by decide +kernel) (by decide +kernel), _, rfl, a, W, s, k, rfl, hh, hk, pre.fine.good.lt k, Nat.le_trans (pre.fine.ks k) (by decide), fun H1 p1 L e1 n1 hp1 hr1 hs1 => ?_⟩
  have hl := sec_len pre.fine hs1
  refine ⟨k, p1, L, rfl, SqL.of hp1, hr1, pre.tabs.ext e1, by omega, fun H2 e2 t2 => ?_⟩
  have e12 : ExtN H H2 := (extN_of_same e1).trans e2
  have eu : undoOf k L = (h.lastOwn k).map Deed.id := undo_is k L h (by rw [pre.fine.good.desk, hs1])
  rw [eu]
  refine (⟨_, rfl, rfl, _, rfl, ?_⟩)
  rw [optV_isN]
  cases hd : h.lastOwn k with
  | none =>
    rw [hd] at q
    exact iteT ⟨(by show 1 ≤ sizeLine; decide), fun p np => q.says pre e12 t2 np⟩
  | some d =>
    rw [hd] at q
    obtain ⟨d1, d2⟩ := own_at pre.fine.good (lastOwn_own hd)
    exact iteF ⟨_, rfl, _, rfl, _, rfl, a, W, s, h, k, d.id, false, rfl, pre.ext e12 t2, hk, ⟨d, d1, d2⟩, Ans.later q e12⟩
theorem ok_redo {f : Addr} {fd : FuncData} (F : L2.Fun K "redo" "redo" s_redo f fd) (TD : TxtD mg) (mH : C8.Met P w K mg base 1 c.H "has_desk" (spHasDesk c) []) (mK : C8.Met P w K mg base 1 c.H "known_deeds" (spKnown K c) []) (cU : C8.Cal P w K mg base 3 "move_to_redo" (spRedo K c Tb) []) (cT : C8.Cal P w K mg base 5 "turn" (spTurn c Tb) []) :
    FnOk P w K mg base L2.CX0 6 f fd ["house", "desk"] (spRedoC c Tb) := by
  obtain ⟨t1, h1⟩ := TD.notFound
  obtain ⟨t2, h2⟩ := TD.noMove
  refine F.ok sc_redo (fun vs H Q E h => ?_) fun cdv A outer s H vs Q E hr h => ⟨_, pss_cons (ps_if (pt_not (pt_val (C8.pe_mt mH hr (by decide) (pv 0) (pa_cons (pv 1) pa_nil)))) (pss_one (ps_ret (pe_lst (pa_cons (pe_glob (v := .int (-2)) rfl h1 ⟨_, rfl⟩) pa_nil)))) pss_nil)
    (pss_cons (ps_set (i := 2) sc_redo.nd rfl (.inl rfl) (C8.pe_c cU hr (by decide) rfl (pa_cons (pv 1) (pa_cons (C8.pe_mt mK hr (by decide) (pv 0) (pa_cons (pv 1) pa_nil)) pa_nil))))
    (pss_cons (ps_if (pt_cmpR op_isN (pv 2) pe_non (nomark _)) (pss_one (ps_ret (pe_lst (pa_cons (pe_glob (v := .int (-3)) rfl h2 ⟨_, rfl⟩) pa_nil)))) pss_nil)
    (pss_one (ps_ret (C8.pe_c cT hr (Nat.le_refl _) rfl (pa_cons (pv 0) (pa_cons (pv 1) (pa_cons (pv 2) (pa_cons pe_bl pa_nil))))))))), ?_⟩
  · obtain ⟨a, W, s, h, k, rfl, _⟩ := h
    rfl
  obtain ⟨a, W, s, h, k, rfl, pre, q⟩ := h
  have hh := pre.at_
  refine ⟨_, rfl, a, _, _, rfl, hh.ins, hF_no (by decide +kernel) (by decide +kernel), _, rfl, a, W, s, k, rfl, hh, _, rfl, ?_⟩
  by_cases hk : k < s.known.length
  case neg =>
    have e : h.step (.redo k) = (h, Sq31.says (-2)) := if_pos (by rw [pre.fine.len]; omega)
    rw [e] at q
    rw [decide_eq_false hk]
    exact iteT ⟨(by show 1 ≤ sizeLine; decide), fun p np => q.says pre (ExtN.refl H) pre.tabs np⟩
  rw [decide_eq_true hk]
  have e0 : ¬ h.desks.length ≤ k := by rw [pre.fine.len]; omega
  have es : h.step (.redo k) = match h.nextOwn k with
    | none => (h, Sq31.says (-3))
    | some d => turnOut h k d.id true := (if_neg e0).trans rfl
  rw [es] at q
  refine iteF ⟨_, rfl, _, rfl, a, _, _, rfl, hh.ins, hF_no (by decide +kernel) (by decide +kernel), _, rfl, a, W, s, k, rfl, hh, hk, pre.fine.good.lt k, Nat.le_trans (pre.fine.ks k) (by decide), fun H1 p1 L e1 n1 hp1 hr1 hs1 => ?_⟩
  have hl := sec_len pre.fine hs1
  refine ⟨k, p1, L, rfl, SqL.of hp1, hr1, pre.tabs.ext e1, by omega, fun H2 e2 t2 => ?_⟩
  have e12 : ExtN H H2 := (extN_of_same e1).trans e2
  have eu : redoOf k L = (h.nextOwn k).map Deed.id := redo_is k L h (by rw [pre.fine.good.desk, hs1]) (by rw [hs1]; exact pre.fine.good.ss k) (by rw [hs1]; exact pre.fine.good.hid k) (by rw [hs1]; exact pre.fine.good.ht k)
  rw [eu]
  refine (⟨_, rfl, rfl, _, rfl, ?_⟩)
  rw [optV_isN]
  cases hd : h.nextOwn k with
  | none =>
    rw [hd] at q
    exact iteT ⟨(by show 1 ≤ sizeLine; decide), fun p np => q.says pre e12 t2 np⟩
  | some d =>
    rw [hd] at q
    obtain ⟨d1, d2⟩ := own_at pre.fine.good (nextOwn_own hd)
    exact iteF ⟨_, rfl, _, rfl, _, rfl, a, W, s, h, k, d.id, true, rfl, pre.ext e12 t2, hk, ⟨d, d1, d2⟩, Ans.later q e12⟩
/-! ### would -/
def spWould (c : Cs) (T : List (Addr × Str)) : Sp := fun vs H Q _ => ∃ (a : Addr) (W : Hw) (s : S) (h : House) (k i : Nat), vs = [.ref a, I k, I i] ∧ Pre c T H a W s h ∧ Ans c T a H W (h.step (.would k i)) Q
abbrev s_would : Stmt := top 47
theorem sc_would : FnScope ["house", "desk", "number", "refusal", "things"] ["house", "desk", "number"] (defScope s_would) := ⟨rfl, rfl, rfl, by decide +kernel, rfl, by decide +kernel, by decide +kernel⟩
theorem would_refusal (h : House) (k i : Nat) : h.step (.would k i) = match refusal h k i false with
    | some z => (h, Sq31.says z)
    | none => (h, ⟨(Sq31.otherwise (h.tree k) (Sq28.treeOf ((Sq31.live (h.desk k)).filter fun e => e.id != i))).length, Sq31.ints (Sq31.otherwise (h.tree k) (Sq28.treeOf ((Sq31.live (h.desk k)).filter fun e => e.id != i)))⟩) := by
  unfold refusal
  show (if h.desks.length ≤ k then _ else _) = _
  by_cases hk : h.desks.length ≤ k
  · rw [if_pos hk, if_pos hk]
  · rw [if_neg hk, if_neg hk]
    cases h.mine k i with
    | none => rfl
    | some d =>
      dsimp only
      by_cases hh : Sq31.holds (h.desk k) d = false
      · rw [if_pos hh, if_pos hh]
      · rw [if_neg hh, if_neg hh]
theorem ok_would {f : Addr} {fd : FuncData} (F : L2.Fun K "would" "would" s_would f fd) (T : Txt K mg c) (cR : C8.Cal P w K mg base 4 "refusal_to_turn" (spRefusal c Tb) []) (mT : C8.Met P w K mg base 4 c.H "tree_at" (spTreeAt c Tb) []) (mW : C8.Met P w K mg base 4 c.H "tree_without" (spTreeWo c Tb) []) (cE : C8.Cal P w K mg base 1 "elsewhere" (spElse K) []) :
    FnOk P w K mg base L2.CX0 5 f fd ["house", "desk", "number"] (spWould c Tb) := by
  refine F.ok sc_would (fun vs H Q E h => ?_) fun cdv A outer s H vs Q E hr h => ⟨_, pss_cons (ps_set (i := 3) sc_would.nd rfl (.inl rfl) (C8.pe_c cR hr (Nat.le_refl _) rfl (pa_cons (pv 0) (pa_cons (pv 1) (pa_cons (pv 2) (pa_cons pe_bl pa_nil))))))
    (pss_cons (ps_if (pt_cmpR op_notN (pv 3) pe_non (nomark _)) (pss_one (ps_ret (pe_lst (pa_cons (pv 3) pa_nil)))) pss_nil)
    (pss_cons (ps_set (i := 4) sc_would.nd rfl (.inl rfl) (C8.pe_c cE hr (by decide) rfl (pa_cons (C8.pe_mt mT hr (Nat.le_refl _) (pv 0) (pa_cons (pv 1) pa_nil)) (pa_cons (C8.pe_mt mW hr (Nat.le_refl _) (pv 0) (pa_cons (pv 1) (pa_cons (pv 2) pa_nil))) pa_nil))))
    (pss_one (ps_ret (pe_op op_cat (pe_lst (pa_cons (pe_callB call_len_seq (by rfl) T.bLen PySem.boot_len (pa_cons (pv 4) pa_nil)) pa_nil)) (pv 4)))))), ?_⟩
  · obtain ⟨a, W, s, h, k, i, rfl, _⟩ := h
    rfl
  obtain ⟨a, W, s, h, k, i, rfl, pre, q⟩ := h
  rw [would_refusal] at q
  refine ⟨_, rfl, _, rfl, _, rfl, a, W, s, h, k, i, false, rfl, pre, fun H1 e1 t1 => ?_⟩
  cases hz : refusal h k i false with
  | some z =>
    rw [hz] at q
    refine (⟨_, rfl, rfl, _, rfl, ?_⟩)
    have : (!decide (optZ (some z) = V.non)) = true := by
      rw [decide_eq_false (fun y => by cases y)]
      rfl
    rw [this]
    exact iteT ⟨_, rfl, (by show 1 ≤ sizeLine; decide), fun p np => q.says pre e1 t1 np⟩
  | none =>
    rw [hz] at q
    obtain ⟨hk, _⟩ := own_of_refusal pre.fine hz
    have pre1 := pre.ext e1 t1
    refine ⟨_, rfl, rfl, _, rfl, iteF ⟨_, rfl, a, _, _, rfl, pre1.at_.ins, hF_no (by decide +kernel) (by decide +kernel), _, rfl, a, W, s, h, k, rfl, pre1.at_, pre.fine, hk, t1, fun H2 p2 e2 t2 n2 ht2 => ?_⟩⟩
    have pre2 := pre1.ext e2 t2
    refine ⟨_, rfl, a, _, _, rfl, pre2.at_.ins, hF_no (by decide +kernel) (by decide +kernel), _, rfl, _, rfl, a, W, s, h, k, i, rfl, pre2.at_, pre.fine, hk, t2, fun H3 p3 e3 t3 n3 ht3 => ?_⟩
    refine ⟨p2, p3, _, _, 900, 900, rfl, ht2.ext e3, ht3, fun H4 p4 e4 n4 hp4 => ?_⟩
    generalize hO : Sq31.otherwise (h.tree k) (Sq28.treeOf ((Sq31.live (h.desk k)).filter fun e => e.id != i)) = O at q hp4
    have elen : O.length ≤ 64 := by rw [← hO]; exact else_len _ _
    have e14 : ExtN H H4 := ((e1.trans e2).trans e3).trans (extN_of_same e4)
    refine ⟨_, rfl, _, _, rfl, .inl (SqL.of hp4), (by show 1 ≤ sizeLine; decide), fun l nl => ?_⟩
    rw [List.length_map]
    have e5 := same_new (o := .lst [V.int (O.length : Int)]) (Same.refl H4) nl
    refine ⟨_, rfl, l, p4, _, _, rfl, rfl, upd_same, e5 _ _ hp4, by rw [List.length_map, sizeLine_eq]; show 1 + _ ≤ _; omega, fun p np => ?_⟩
    have e15 : ExtN H (upd H4 l (.lst [V.int (O.length : Int)])) := e14.trans (extN_of_same e5)
    refine q.read pre (ExtN.new e15 np) (Tabs.new ((t3.ext e4).ext e5) np) (NewN.of e15 np) ?_
    rw [upd_same]
    show _ = some (HO.lst (V.int (O.length : Int) :: (Sq31.ints O).map V.int))
    rw [ints_map]
    rfl
end
end Hb
end

section
set_option Elab.async false
set_option linter.all false
set_option maxRecDepth 100000
set_option maxHeartbeats 2500000
namespace Hb
open L2 PySem PySem.Spec PyProof.Rows LamX
open Sq31 (Deed House)
section
variable {P : Program} {w : World} {K : PySem.W.Frag} {mg : Str → Option Value} {base : Heap} {c : Cs} {Tb : List (Addr × Str)}
/-! ### tell -/
def spTell (c : Cs) (T : List (Addr × Str)) : Sp := fun vs H Q _ => ∃ (a : Addr) (W : Hw) (s : S) (h : House) (i k : Nat), vs = [.ref a, I i, I k] ∧ Pre c T H a W s h ∧ Ans c T a H W (h.step (.tell i k)) Q
abbrev s_tell : Stmt := top 48
theorem sc_tell : FnScope ["house", "number", "desk"] ["house", "number", "desk"] (defScope s_tell) := ⟨rfl, rfl, rfl, by decide +kernel, rfl, by decide +kernel, by decide +kernel⟩
theorem tell_none {s : S} {h : House} (f : Fine s h) {i k : Nat} (e : ¬ (i < s.done.length ∧ k < s.known.length)) : h.step (.tell i k) = (h, Sq31.says (-2)) := by
  show (match h.all[i]? with | none => _ | some d => _) = _
  rw [f.good.all]
  cases z : s.done[i]? with
  | none => rfl
  | some d =>
    have : i < s.done.length := (List.getElem?_eq_some_iff.mp z).1
    exact if_pos (by rw [f.len]; omega)
theorem tell_some {s : S} {h : House} (f : Fine s h) {i k : Nat} {d : Deed} (hi : s.done[i]? = some d) (hk : k < s.known.length) : h.step (.tell i k) = (h.set k (Sq31.learn d (h.desk k)), Sq31.says ((h.set k (Sq31.learn d (h.desk k))).desk k).length) := by
  show (match h.all[i]? with | none => _ | some d => _) = _
  rw [f.good.all, hi]
  exact if_neg (by rw [f.len]; omega)
theorem ok_tell {f : Addr} {fd : FuncData} (F : L2.Fun K "tell" "tell" s_tell f fd) (T : Txt K mg c) (TD : TxtD mg) (mH : C8.Met P w K mg base 1 c.H "has_desk" (spHasDesk c) []) (mD : C8.Met P w K mg base 1 c.H "has_deed" (spHasDeed c) []) (mL : C8.Met P w K mg base 1 c.H "learn" (spLearn c Tb) []) (mK : C8.Met P w K mg base 1 c.H "known_deeds" (spKnown K c) []) :
    FnOk P w K mg base L2.CX0 2 f fd ["house", "number", "desk"] (spTell c Tb) := by
  obtain ⟨t1, h1⟩ := TD.notFound
  refine F.ok sc_tell (fun vs H Q E h => ?_) fun cdv A outer s H vs Q E hr h => ⟨_, pss_cons (ps_if (PW.pt (pw_or (pt_not (pt_val (C8.pe_mt mD hr (Nat.le_refl _) (pv 0) (pa_cons (pv 1) pa_nil)))) (pw_or1 (pt_not (pt_val (C8.pe_mt mH hr (Nat.le_refl _) (pv 0) (pa_cons (pv 2) pa_nil))))))) (pss_one (ps_ret (pe_lst (pa_cons (pe_glob (v := .int (-2)) rfl h1 ⟨_, rfl⟩) pa_nil)))) pss_nil)
    (pss_cons (ps_expr (C8.pe_mt mL hr (Nat.le_refl _) (pv 0) (pa_cons (pv 2) (pa_cons (pe_lst (pa_cons (pv 1) pa_nil)) pa_nil))))
    (pss_one (ps_ret (pe_lst (pa_cons (pe_callB call_len_seq (by rfl) T.bLen PySem.boot_len (pa_cons (C8.pe_mt mK hr (Nat.le_refl _) (pv 0) (pa_cons (pv 2) pa_nil)) pa_nil)) pa_nil))))), ?_⟩
  · obtain ⟨a, W, s, h, i, k, rfl, _⟩ := h
    rfl
  obtain ⟨a, W, s, h, i, k, rfl, pre, q⟩ := h
  have hh := pre.at_
  refine ⟨_, rfl, a, _, _, rfl, hh.ins, hF_no (by decide +kernel) (by decide +kernel), _, rfl, a, W, s, i, rfl, hh, _, rfl, ?_⟩
  by_cases hi : i < s.done.length
  case neg =>
    rw [tell_none pre.fine (fun z => hi z.1)] at q
    rw [decide_eq_false hi]
    exact iteT (iteT ⟨(by show 1 ≤ sizeLine; decide), fun p np => q.says pre (ExtN.refl H) pre.tabs np⟩)
  rw [decide_eq_true hi]
  refine iteF ⟨_, rfl, a, _, _, rfl, hh.ins, hF_no (by decide +kernel) (by decide +kernel), _, rfl, a, W, s, k, rfl, hh, _, rfl, ?_⟩
  by_cases hk : k < s.known.length
  case neg =>
    rw [tell_none pre.fine (fun z => hk z.2)] at q
    rw [decide_eq_false hk]
    exact iteT ⟨(by show 1 ≤ sizeLine; decide), fun p np => q.says pre (ExtN.refl H) pre.tabs np⟩
  rw [decide_eq_true hk]
  have hd := List.getElem?_eq_getElem hi
  generalize s.done[i] = d at hd
  rw [tell_some pre.fine hd hk] at q
  refine iteF ⟨_, rfl, a, _, _, rfl, hh.ins, hF_no (by decide +kernel) (by decide +kernel), _, rfl, _, rfl, (by show 1 ≤ sizeLine; decide), fun l nl => ?_⟩
  have e1 := same_new (o := .lst [I i]) (Same.refl H) nl
  have hl : upd H l (.lst [I i]) l = some (.lst [I i]) := upd_same
  generalize upd H l (.lst [I i]) = H1 at e1 hl
  have pre1 := pre.same e1
  have zk := pre.fine.ks k
  refine ⟨a, W, s, k, l, [i], rfl, pre1.at_, hk, hl, by show _ + 1 ≤ 900; omega, pre1.tabs, fun H2 hh2 st2 t2 => ?_⟩
  have g := pre.fine.good
  have ea : addAll (s.ks k) [i] = if i ∈ s.ks k then s.ks k else s.ks k ++ [i] := rfl
  have lt2 : ∀ j ∈ addAll (s.ks k) [i], j < s.done.length := fun j hj => by
    rcases (addAll_mem _ _ _).mp hj with z | z
    · exact g.lt k j z
    · rw [List.mem_singleton.mp z]; exact hi
  have g2 : Good ⟨s.done, s.known.set k (addAll (s.ks k) [i])⟩ (h.set k (Sq31.learn d (h.desk k))) := g.learned hk lt2 (addAll_nodup _ (g.nodup k)) (fun j hj => (addAll_mem _ _ _).mpr (.inl hj)) (by rw [learn_pick g k hd]; rfl)
  have f2 : Fine ⟨s.done, s.known.set k (addAll (s.ks k) [i])⟩ (h.set k (Sq31.learn d (h.desk k))) := ⟨g2, pre.fine.full, by show (s.known.set k _).length ≤ 8; rw [List.length_set]; exact pre.fine.few⟩
  have hk2 : k < (S.mk s.done (s.known.set k (addAll (s.ks k) [i]))).known.length := by show k < (s.known.set k _).length; rw [List.length_set]; exact hk
  refine ⟨_, rfl, a, _, _, rfl, hh2.ins, hF_no (by decide +kernel) (by decide +kernel), _, rfl, a, W, _, k, rfl, hh2, hk2, g2.lt k, Nat.le_trans (f2.ks k) (by decide), fun H3 p3 L e3 n3 hp3 hr3 hs3 => ?_⟩
  have elen : (refs L).length = ((h.set k (Sq31.learn d (h.desk k))).desk k).length := by rw [refs_len, hs3, kd_len g2, desk_len g2]
  refine ⟨_, _, rfl, .inl (SqL.of hp3), (by show 1 ≤ sizeLine; decide), fun p np => ?_⟩
  have st3 : HStep a H W H3 W := ((HStep.same e1).trans st2).trans (HStep.same e3)
  have hh3 := hh2.ext (extN_of_same e3)
  have e4 := same_new (o := .lst [V.int ((refs L).length : Int)]) (Same.refl H3) np
  refine q _ W _ p (hh3.ext (extN_of_same e4)) f2 (st3.trans (HStep.same e4)) ((t2.ext e3).ext e4) (st3.nu (NewN.none np)) (hh3.new_out (NewN.none np)) ?_
  rw [upd_same, elen]
  rfl
/-! ### meet -/
def spMeet (c : Cs) (T : List (Addr × Str)) : Sp := fun vs H Q _ => ∃ (a : Addr) (W : Hw) (s : S) (h : House) (k j : Nat), vs = [.ref a, I k, I j] ∧ Pre c T H a W s h ∧ Ans c T a H W (h.step (.meet k j)) Q
abbrev s_meet : Stmt := top 49
theorem sc_meet : FnScope ["house", "desk", "other", "learned"] ["house", "desk", "other"] (defScope s_meet) := ⟨rfl, rfl, rfl, by decide +kernel, rfl, by decide +kernel, by decide +kernel⟩
theorem ok_meet {f : Addr} {fd : FuncData} (F : L2.Fun K "meet" "meet" s_meet f fd) (T : Txt K mg c) (TD : TxtD mg) (mH : C8.Met P w K mg base 1 c.H "has_desk" (spHasDesk c) []) (mS : C8.Met P w K mg base 2 c.H "share" (spShare c Tb) []) (mK : C8.Met P w K mg base 1 c.H "known_deeds" (spKnown K c) []) :
    FnOk P w K mg base L2.CX0 3 f fd ["house", "desk", "other"] (spMeet c Tb) := by
  obtain ⟨t1, h1⟩ := TD.notFound
  refine F.ok sc_meet (fun vs H Q E h => ?_) fun cdv A outer s H vs Q E hr h => ⟨_, pss_cons (ps_if (PW.pt (pw_or (pt_not (pt_val (C8.pe_mt mH hr (by decide) (pv 0) (pa_cons (pv 1) pa_nil)))) (pw_or1 (pt_not (pt_val (C8.pe_mt mH hr (by decide) (pv 0) (pa_cons (pv 2) pa_nil))))))) (pss_one (ps_ret (pe_lst (pa_cons (pe_glob (v := .int (-2)) rfl h1 ⟨_, rfl⟩) pa_nil)))) pss_nil)
    (pss_cons (ps_set (i := 3) sc_meet.nd rfl (.inl rfl) (C8.pe_mt mS hr (Nat.le_refl _) (pv 0) (pa_cons (pv 1) (pa_cons (pv 2) pa_nil))))
    (pss_one (ps_ret (pe_op op_cat (pe_lst (pa_cons (pe_callB call_len_seq (by rfl) T.bLen PySem.boot_len (pa_cons (C8.pe_mt mK hr (by decide) (pv 0) (pa_cons (pv 1) pa_nil)) pa_nil)) pa_nil)) (pv 3))))), ?_⟩
  · obtain ⟨a, W, s, h, k, j, rfl, _⟩ := h
    rfl
  obtain ⟨a, W, s, h, k, j, rfl, pre, q⟩ := h
  have hh := pre.at_
  refine ⟨_, rfl, a, _, _, rfl, hh.ins, hF_no (by decide +kernel) (by decide +kernel), _, rfl, a, W, s, k, rfl, hh, _, rfl, ?_⟩
  by_cases hk : k < s.known.length
  case neg =>
    have e : h.step (.meet k j) = (h, Sq31.says (-2)) := if_pos (.inl (by rw [pre.fine.len]; omega))
    rw [e] at q
    rw [decide_eq_false hk]
    exact iteT (iteT ⟨(by show 1 ≤ sizeLine; decide), fun p np => q.says pre (ExtN.refl H) pre.tabs np⟩)
  rw [decide_eq_true hk]
  refine iteF ⟨_, rfl, a, _, _, rfl, hh.ins, hF_no (by decide +kernel) (by decide +kernel), _, rfl, a, W, s, j, rfl, hh, _, rfl, ?_⟩
  by_cases hj : j < s.known.length
  case neg =>
    have e : h.step (.meet k j) = (h, Sq31.says (-2)) := if_pos (.inr (by rw [pre.fine.len]; omega))
    rw [e] at q
    rw [decide_eq_false hj]
    exact iteT ⟨(by show 1 ≤ sizeLine; decide), fun p np => q.says pre (ExtN.refl H) pre.tabs np⟩
  rw [decide_eq_true hj]
  have hlen := pre.fine.len
  have e0 : ¬ (h.desks.length ≤ k ∨ h.desks.length ≤ j) := by rw [hlen]; omega
  generalize hl : (h.desk j).foldl (fun (m : List Deed) d => Sq31.learn d m) (h.desk k) = l
  have e : h.step (.meet k j) = ((h.set k l).set j l, ⟨l.length, Sq31.ints [l.length - (h.desk k).length, l.length - (h.desk j).length]⟩) := by
    rw [← hl]
    exact if_neg e0
  rw [e] at q
  refine iteF ⟨_, rfl, a, _, _, rfl, hh.ins, hF_no (by decide +kernel) (by decide +kernel), _, rfl, _, rfl, a, W, s, h, k, j, rfl, hh, pre.fine, hk, hj, pre.tabs, fun H1 s1 p1 hh1 f1 st1 t1 n1 hkl hks hp1 => ?_⟩
  rw [hl] at f1 hks hp1
  have hk1 : k < s1.known.length := by rw [hkl]; exact hk
  refine ⟨_, rfl, a, _, _, rfl, hh1.ins, hF_no (by decide +kernel) (by decide +kernel), _, rfl, a, W, s1, k, rfl, hh1, hk1, f1.good.lt k, Nat.le_trans (f1.ks k) (by decide), fun H3 p3 L e3 n3 hp3 hr3 hs3 => ?_⟩
  have elen : (refs L).length = l.length := by rw [refs_len, hs3, kd_len f1.good, hks]
  refine ⟨_, _, rfl, .inl (SqL.of hp3), (by show 1 ≤ sizeLine; decide), fun u nu => ?_⟩
  rw [elen]
  have e4 := same_new (o := .lst [V.int (l.length : Int)]) (Same.refl H3) nu
  have hu : upd H3 u (.lst [V.int (l.length : Int)]) u = some (.lst [V.int (l.length : Int)]) := upd_same
  generalize upd H3 u (.lst [V.int (l.length : Int)]) = H4 at e4 hu
  refine ⟨_, rfl, u, p1, _, _, rfl, rfl, hu, e4 _ _ (e3 _ _ hp1), (by show 1 + 2 ≤ sizeLine; decide), fun p np => ?_⟩
  have st4 : HStep a H W H4 W := st1.trans (HStep.same (e3.trans e4))
  have hh4 := hh1.ext (extN_of_same (e3.trans e4))
  have e5 := same_new (o := .lst ([V.int (l.length : Int)] ++ [I (l.length - (h.desk k).length), I (l.length - (h.desk j).length)])) (Same.refl H4) np
  refine q _ W _ p (hh4.ext (extN_of_same e5)) f1 (st4.trans (HStep.same e5)) (((t1.ext e3).ext e4).ext e5) (st4.nu (NewN.none np)) (hh4.new_out (NewN.none np)) ?_
  rw [upd_same]
  rfl
/-! ### list_tree -/
def spListTree (c : Cs) (T : List (Addr × Str)) : Sp := fun vs H Q _ => ∃ (a : Addr) (W : Hw) (s : S) (h : House) (k : Nat), vs = [.ref a, I k] ∧ Pre c T H a W s h ∧ (h.step (.tree k)).2.out.length ≤ 1000000 ∧ Ans c T a H W (h.step (.tree k)) Q
abbrev s_list_tree : Stmt := top 50
theorem sc_list_tree : FnScope ["house", "desk", "rows", "told", "row"] ["house", "desk"] (defScope s_list_tree) := ⟨rfl, rfl, rfl, by decide +kernel, rfl, by decide +kernel, by decide +kernel⟩
def flat3 (rs : List (Sq28.Place × Nat)) : List Nat := rs.flatMap fun x => [x.1.thing, x.2, x.1.label]
theorem flat3_len (rs : List (Sq28.Place × Nat)) : (flat3 rs).length = 3 * rs.length := by
  induction rs with
  | nil => rfl
  | cons r rs ih =>
    unfold flat3 at *
    rw [List.flatMap_cons, List.length_append, ih]
    show 3 + 3 * rs.length = 3 * (rs.length + 1)
    omega
theorem flat3_snoc (rs : List (Sq28.Place × Nat)) (r : Sq28.Place × Nat) : flat3 (rs ++ [r]) = flat3 rs ++ [r.1.thing, r.2, r.1.label] := by
  unfold flat3
  rw [List.flatMap_append]
  rfl
theorem ok_list_tree {f : Addr} {fd : FuncData} (F : L2.Fun K "list_tree" "list_tree" s_list_tree f fd) (T : Txt K mg c) (TD : TxtD mg) (mH : C8.Met P w K mg base 1 c.H "has_desk" (spHasDesk c) []) (mT : C8.Met P w K mg base 4 c.H "tree_at" (spTreeAt c Tb) []) (cR : C8.Cal P w K mg base 2 "rows_within_root" spRows []) :
    FnOk P w K mg base L2.CX0 5 f fd ["house", "desk"] (spListTree c Tb) := by
  obtain ⟨t1, h1⟩ := TD.notFound
  refine F.ok sc_list_tree (fun vs H Q E h => ?_) fun cdv A outer s H vs Q E hr h => ⟨_, pss_cons (ps_if (pt_not (pt_val (C8.pe_mt mH hr (by decide) (pv 0) (pa_cons (pv 1) pa_nil)))) (pss_one (ps_ret (pe_lst (pa_cons (pe_glob (v := .int (-2)) rfl h1 ⟨_, rfl⟩) pa_nil)))) pss_nil)
    (pss_cons (ps_set (i := 2) sc_list_tree.nd rfl (.inl rfl) (C8.pe_c cR hr (by decide) rfl (pa_cons (C8.pe_mt mT hr (Nat.le_refl _) (pv 0) (pa_cons (pv 1) pa_nil)) pa_nil)))
    (pss_cons (ps_set (i := 3) sc_list_tree.nd rfl (.inl rfl) (pe_lst (pa_cons (pe_callB call_len_seq (by rfl) T.bLen PySem.boot_len (pa_cons (pv 2) pa_nil)) pa_nil)))
    (pss_cons (ps_for PassesOwn.never rfl (pi_list (pv 2)) (pg_name (i := 4) sc_list_tree.nd rfl (.inl rfl)) (pss_one (ps_expr (pe_bm PySem.F.plainAttrs_list PySem.F.slot_list_extend PySem.F.type_list_extend mt_extendT (pv 3) (pa_cons (pv 4) pa_nil)))))
    (pss_one (ps_ret ((pv 3))))))), ?_⟩
  · obtain ⟨a, W, s, h, k, rfl, _⟩ := h
    rfl
  obtain ⟨a, W, s, h, k, rfl, pre, hbig, q⟩ := h
  have hh := pre.at_
  refine ⟨_, rfl, a, _, _, rfl, hh.ins, hF_no (by decide +kernel) (by decide +kernel), _, rfl, a, W, s, k, rfl, hh, _, rfl, ?_⟩
  by_cases hk : k < s.known.length
  case neg =>
    have e : h.step (.tree k) = (h, Sq31.says (-2)) := if_pos (by rw [pre.fine.len]; omega)
    rw [e] at q
    rw [decide_eq_false hk]
    exact iteT ⟨(by show 1 ≤ sizeLine; decide), fun p np => q.says pre (ExtN.refl H) pre.tabs np⟩
  rw [decide_eq_true hk]
  have e : h.step (.tree k) = (h, Sq31.told (Sq28.all (h.tree k) Sq28.ROOT)) := if_neg (by rw [pre.fine.len]; omega)
  rw [e] at q hbig
  have hb3 : (flat3 (Sq28.all (h.tree k) Sq28.ROOT)).length ≤ 1000000 := by
    have : (Sq31.told (Sq28.all (h.tree k) Sq28.ROOT)).out.length = (flat3 (Sq28.all (h.tree k) Sq28.ROOT)).length := by
      show (Sq31.ints _).length = _
      unfold Sq31.ints
      rw [List.length_map]
      rfl
    rw [← this]
    exact hbig
  have hb1 := hb3
  rw [flat3_len] at hb1
  refine iteF ⟨_, rfl, a, _, _, rfl, hh.ins, hF_no (by decide +kernel) (by decide +kernel), _, rfl, a, W, s, h, k, rfl, hh, pre.fine, hk, pre.tabs, fun H1 p1 e1 t1 n1 ht1 => ?_⟩
  refine ⟨p1, h.tree k, 900, rfl, ht1, Nat.le_refl _, wf_treeOf _, by omega, fun H2 p2 e2 n2 hl2 => ?_⟩
  obtain ⟨L, hL1, hL2, hL3⟩ := hl2.ex
  have e12 : ExtN H H2 := e1.trans (extN_of_same e2)
  generalize hR : Sq28.all (h.tree k) Sq28.ROOT = R at *
  have hLR : L.length = R.length := by rw [← hL2, List.length_map]
  refine ⟨_, rfl, _, _, rfl, .inl (SqL.of hL1), (by show 1 ≤ sizeLine; decide), fun u nu => ?_⟩
  rw [List.length_map, hLR]
  have e3 := same_new (o := .lst [V.int (R.length : Int)]) (Same.refl H2) nu
  have hu : upd H2 u (.lst [V.int (R.length : Int)]) u = some (.lst [V.int (R.length : Int)]) := upd_same
  generalize upd H2 u (.lst [V.int (R.length : Int)]) = H3 at e3 hu
  refine ⟨_, rfl, p2, rfl, ⟨_, SqL.of (e3 _ _ hL1)⟩, for_list (K := K) (a := p2) (xs := L.map fun z => V.ref z.1) (fun i σ H' => ∃ v : Option V, σ = [some (.ref a), some (I k), some (.ref p2), some (.ref u), v] ∧ Same H2 H' ∧ H' u = some (.lst (V.int (R.length : Int) :: (flat3 (R.take i)).map I)))
    ⟨none, rfl, e3, hu⟩ (fun i σ H' _ ⟨_, _, z, _⟩ => SqL.of (z _ _ hL1)) ?_ ?_⟩
  · rintro i y σ H' hi ⟨v, rfl, e4, hu4⟩
    rw [List.getElem?_map] at hi
    obtain ⟨z, hz, rfl⟩ : ∃ z, L[i]? = some z ∧ y = V.ref z.1 := by
      cases z : L[i]? with
      | none => rw [z] at hi; cases hi
      | some p => rw [z] at hi; exact ⟨p, rfl, (Option.some.inj hi).symm⟩
    have hr : R[i]? = some z.2 := by rw [← hL2, List.getElem?_map, hz]; rfl
    have hsz : (flat3 (R.take i)).length + 3 ≤ 3 * R.length := by
      have : i < R.length := (List.getElem?_eq_some_iff.mp hr).1
      rw [flat3_len, List.length_take]
      omega
    refine ⟨_, rfl, .inl ⟨rfl, _, SqL.of hu4⟩, _, rfl, u, z.1, _, _, rfl, rfl, hu4, SqT.of (e4 _ _ (hL3 z (List.mem_of_getElem? hz))), ?_, ?_⟩
    · rw [List.length_cons, List.length_map, sizeLine_eq]
      show _ + 1 + 3 ≤ _
      omega
    · refine ⟨some (.ref z.1), rfl, same_write e4 nu, ?_⟩
      rw [upd_same, take_snoc hr, flat3_snoc, List.map_append]
      rfl
  · rintro σ H' ⟨v, rfl, e4, hu4⟩
    rw [List.length_map, hLR, List.take_of_length_le (Nat.le_refl _)] at hu4
    have e14 : ExtN H H' := e12.trans (extN_of_same e4)
    refine ⟨_, rfl, q.read pre e14 ((t1.ext e2).ext e4) (NewN.of e12 nu) ?_⟩
    rw [hu4]
    show _ = some (HO.lst (V.int (R.length : Int) :: (Sq31.ints (flat3 R)).map V.int))
    rw [ints_map]
/-! ### list_moves -/
def spListMoves (c : Cs) (T : List (Addr × Str)) : Sp := fun vs H Q _ => ∃ (a : Addr) (W : Hw) (s : S) (h : House) (k : Nat), vs = [.ref a, I k] ∧ Pre c T H a W s h ∧ Ans c T a H W (h.step (.deeds k)) Q
abbrev s_list_moves : Stmt := top 51
theorem sc_list_moves : FnScope ["house", "desk", "outcomes", "known", "told", "deed"] ["house", "desk"] (defScope s_list_moves) := ⟨rfl, rfl, rfl, by decide +kernel, rfl, by decide +kernel, by decide +kernel⟩
def fate (l : List Deed) (d : Deed) : List Nat := [d.id, (outFn (Sq31.live l) d.id).getD 0]
def flat2 (l : List Deed) (ds : List Deed) : List Nat := ds.flatMap (fate l)
theorem flat2_len (l : List Deed) (ds : List Deed) : (flat2 l ds).length = 2 * ds.length := by
  induction ds with
  | nil => rfl
  | cons r rs ih =>
    unfold flat2 at *
    rw [List.flatMap_cons, List.length_append, ih]
    show 2 + 2 * rs.length = 2 * (rs.length + 1)
    omega
theorem fates_flat (l : List Deed) : (Sq31.fates l).length = (l.filter Deed.isMove).length ∧ ((Sq31.fates l).flatMap fun x => [x.1, x.2]) = flat2 l (l.filter Deed.isMove) := by
  unfold Sq31.fates flat2
  rw [List.length_map, List.flatMap_map]
  exact ⟨rfl, rfl⟩
theorem seconds_moves (L : List Row) : seconds (movesL L) = (sortD (seconds L)).filter Deed.isMove := by
  unfold movesL
  rw [filter_seconds (sortL L) Deed.isMove, seconds_sort]
theorem getD_I (g : Option Nat) : (g.map I).getD (.int 0) = I (g.getD 0) := by cases g <;> rfl
theorem ok_list_moves {f : Addr} {fd : FuncData} (F : L2.Fun K "list_moves" "list_moves" s_list_moves f fd) (T : Txt K mg c) (TD : TxtD mg) (mH : C8.Met P w K mg base 1 c.H "has_desk" (spHasDesk c) []) (mO : C8.Met P w K mg base 4 c.H "outcomes_at" (spOutcomes c Tb) []) (mK : C8.Met P w K mg base 1 c.H "known_deeds" (spKnown K c) []) (cM : C8.Cal P w K mg base 2 "moves_by_stamps" (spMovesBy K c Tb) []) :
    FnOk P w K mg base L2.CX0 5 f fd ["house", "desk"] (spListMoves c Tb) := by
  obtain ⟨t1, h1⟩ := TD.notFound
  obtain ⟨t2, h2⟩ := TD.notHolding
  refine F.ok sc_list_moves (fun vs H Q E h => ?_) fun cdv A outer s H vs Q E hr h => ⟨_, pss_cons (ps_if (pt_not (pt_val (C8.pe_mt mH hr (by decide) (pv 0) (pa_cons (pv 1) pa_nil)))) (pss_one (ps_ret (pe_lst (pa_cons (pe_glob (v := .int (-2)) rfl h1 ⟨_, rfl⟩) pa_nil)))) pss_nil)
    (pss_cons (ps_set (i := 2) sc_list_moves.nd rfl (.inl rfl) (C8.pe_mt mO hr (Nat.le_refl _) (pv 0) (pa_cons (pv 1) pa_nil)))
    (pss_cons (ps_set (i := 3) sc_list_moves.nd rfl (.inl rfl) (C8.pe_c cM hr (by decide) rfl (pa_cons (C8.pe_mt mK hr (by decide) (pv 0) (pa_cons (pv 1) pa_nil)) pa_nil)))
    (pss_cons (ps_set (i := 4) sc_list_moves.nd rfl (.inl rfl) (pe_lst (pa_cons (pe_callB call_len_seq (by rfl) T.bLen PySem.boot_len (pa_cons (pv 3) pa_nil)) pa_nil)))
    (pss_cons (ps_for PassesOwn.never rfl (pi_list (pv 3)) (pg_name (i := 5) sc_list_moves.nd rfl (.inl rfl)) (pss_one (ps_expr (pe_bm PySem.F.plainAttrs_list PySem.F.slot_list_extend PySem.F.type_list_extend mt_extend (pv 4) (pa_cons (pe_lst (pa_cons (pe_fld (pv 5) rfl) (pa_cons (pe_dget2 (hu_of hr) (pv 2) (pe_fld (pv 5) rfl) (pe_glob (v := .int 0) rfl h2 ⟨_, rfl⟩) ⟨rfl, rfl, rfl, rfl⟩) pa_nil))) pa_nil)))))
    (pss_one (ps_ret (pv 4))))))), ?_⟩
  · obtain ⟨a, W, s, h, k, rfl, _⟩ := h
    rfl
  obtain ⟨a, W, s, h, k, rfl, pre, q⟩ := h
  have hh := pre.at_
  refine ⟨_, rfl, a, _, _, rfl, hh.ins, hF_no (by decide +kernel) (by decide +kernel), _, rfl, a, W, s, k, rfl, hh, _, rfl, ?_⟩
  by_cases hk : k < s.known.length
  case neg =>
    have e : h.step (.deeds k) = (h, Sq31.says (-2)) := if_pos (by rw [pre.fine.len]; omega)
    rw [e] at q
    rw [decide_eq_false hk]
    exact iteT ⟨(by show 1 ≤ sizeLine; decide), fun p np => q.says pre (ExtN.refl H) pre.tabs np⟩
  rw [decide_eq_true hk]
  have e : h.step (.deeds k) = (h, ⟨(Sq31.fates (h.desk k)).length, Sq31.ints ((Sq31.fates (h.desk k)).flatMap fun x => [x.1, x.2])⟩) := if_neg (by rw [pre.fine.len]; omega)
  rw [e, (fates_flat _).1, (fates_flat _).2] at q
  refine iteF ⟨_, rfl, a, _, _, rfl, hh.ins, hF_no (by decide +kernel) (by decide +kernel), _, rfl, a, W, s, h, k, rfl, hh, pre.fine, hk, pre.tabs, fun H1 o e1 t1 n1 ho1 => ?_⟩
  have pre1 := pre.ext e1 t1
  refine ⟨_, rfl, a, _, _, rfl, pre1.at_.ins, hF_no (by decide +kernel) (by decide +kernel), _, rfl, a, W, s, k, rfl, pre1.at_, hk, pre.fine.good.lt k, Nat.le_trans (pre.fine.ks k) (by decide), fun H2 p2 L e2 n2 hp2 hr2 hs2 => ?_⟩
  have hl := sec_len pre.fine hs2
  have hml := moves_len L
  refine ⟨p2, L, rfl, SqL.of hp2, hr2, t1.ext e2, by omega, fun H3 p3 e3 t3 n3 hp3 => ?_⟩
  have e13 : ExtN H H3 := (e1.trans (extN_of_same e2)).trans e3
  have e23 : ExtN H1 H3 := (extN_of_same e2).trans e3
  obtain ⟨kvs, ho2, ho3, ho4⟩ := ho1
  have hoo : H3 o = some (.dK kvs) := e23 _ _ ho2 notTbl_dK
  have hrr : Rows c H3 (movesL L) := fun r hr => (hr2.ext e3) r (sort_mem.mp (List.mem_filter.mp hr).1)
  have hsm : seconds (movesL L) = (h.desk k).filter Deed.isMove := by rw [seconds_moves, hs2, pre.fine.good.desk]
  generalize hD : h.desk k = D at *
  have hln : (refs (movesL L)).length = (D.filter Deed.isMove).length := by rw [refs_len, hsm]
  refine ⟨_, rfl, _, _, rfl, .inl (SqL.of hp3), (by show 1 ≤ sizeLine; decide), fun u nu => ?_⟩
  rw [hln]
  have e4 := same_new (o := .lst [V.int ((D.filter Deed.isMove).length : Int)]) (Same.refl H3) nu
  have hu : upd H3 u (.lst [V.int ((D.filter Deed.isMove).length : Int)]) u = some (.lst [V.int ((D.filter Deed.isMove).length : Int)]) := upd_same
  generalize upd H3 u (.lst [V.int ((D.filter Deed.isMove).length : Int)]) = H4 at e4 hu
  refine ⟨_, rfl, p3, rfl, ⟨_, SqL.of (e4 _ _ hp3)⟩, for_list (K := K) (a := p3) (xs := refs (movesL L)) (fun i σ H' => ∃ v : Option V, σ = [some (.ref a), some (I k), some (.ref o), some (.ref p3), some (.ref u), v] ∧ Same H3 H' ∧ H' u = some (.lst (V.int ((D.filter Deed.isMove).length : Int) :: (flat2 D ((seconds (movesL L)).take i)).map I)))
    ⟨none, rfl, e4, hu⟩ (fun i σ H' _ ⟨_, _, z, _⟩ => SqL.of (z _ _ hp3)) ?_ ?_⟩
  · rintro i y σ H' hi ⟨v, rfl, e5, hu5⟩
    obtain ⟨r, hr1, rfl⟩ := refs_at hi
    obtain ⟨dx, tt, h1', h2'⟩ := (hrr.ext (extN_of_same e5)) r (List.mem_of_getElem? hr1)
    have ilt : i < (movesL L).length := (List.getElem?_eq_some_iff.mp hr1).1
    refine ⟨_, rfl, .inl ⟨rfl, _, SqL.of hu5⟩, _, rfl, r.1, _, dx, _, _, rfl, h1', T.cl r.2, T.nNumber r.2, dF_number tt r.2, _, rfl, o, rfl, .inl ⟨kvs, .inl (e5 _ _ hoo)⟩, _, rfl, r.1, _, dx, _, _, rfl, h1', T.cl r.2, T.nNumber r.2, dF_number tt r.2, _, DGet.k (k := Sum.inl (r.2.id : Int)) (e5 _ _ hoo), (by show 2 ≤ sizeLine; decide), fun m nm => ?_⟩
    rw [ho4, getD_I]
    have hum : u ≠ m := ne_of_none hu5 nm
    refine ⟨u, m, _, _, rfl, rfl, by rw [upd_ne hum]; exact hu5, upd_same, ?_, some (.ref r.1), rfl, same_write (same_new e5 nm) nu, ?_⟩
    · rw [List.length_cons, List.length_map, flat2_len, List.length_take, sizeLine_eq]
      show _ + 1 + 2 ≤ _
      have : (seconds (movesL L)).length = (movesL L).length := by unfold seconds; rw [List.length_map]
      omega
    · rw [upd_same, take_snoc (seconds_at hr1)]
      unfold flat2
      rw [List.flatMap_append, List.map_append]
      rfl
  · rintro σ H' ⟨v, rfl, e5, hu5⟩
    rw [hln, ← hsm, List.take_of_length_le (Nat.le_refl _), hsm] at hu5
    refine ⟨_, rfl, q.read pre (e13.trans (extN_of_same e5)) (t3.ext e5) (NewN.of e13 nu) ?_⟩
    rw [hu5]
    show _ = some (HO.lst (V.int ((D.filter Deed.isMove).length : Int) :: (Sq31.ints (flat2 D (D.filter Deed.isMove))).map V.int))
    rw [ints_map]
end
end Hb
end

section
set_option Elab.async false
set_option linter.all false
set_option maxRecDepth 100000
set_option maxHeartbeats 2500000
namespace Hb
open L2 PySem PySem.Spec PyProof.Rows LamX
open Sq31 (Deed House)
/-! ### two trees in the heap are equal just where they are the same -/
def dtV (H : Hp) (v : V) : PyData := match v with
  | .ref t => match H t with
    | some (.tup [.int u, .int l]) => .tuple [.int u, .int l]
    | _ => .none
  | _ => .none
theorem dtV_place {H : Hp} {v : V} {p : Option (Nat × Nat)} (h : PlaceV H (some v) p) : dtV H v = plD p ∧ p.isSome = true := by
  cases p with
  | none => cases h
  | some q =>
    obtain ⟨t, h1, h2⟩ := h
    cases h1
    refine ⟨?_, rfl⟩
    unfold dtV
    simp only [h2]
    rfl
theorem valV_in {kvs : List (Key × V)} (h : (kvs.map (·.1)).Nodup) {p : Key × V} (hp : p ∈ kvs) : valV kvs p.1 = some p.2 := by
  induction kvs with
  | nil => cases hp
  | cons q r ih =>
    rw [(List.map_cons), List.nodup_cons] at h
    rcases (List.mem_cons.mp hp) with rfl | hp
    · exact valV_pos rfl
    · rw [valV_neg (fun e => h.1 (List.mem_map.mpr ⟨p, hp, e.symm⟩))]
      exact ih h.2 hp
theorem keys_nodup {ks : List Nat} (h : ks.Nodup) : (ks.map (fun n : Nat => (Sum.inl (n : Int) : Key))).Nodup := by
  unfold List.Nodup at *
  rw [List.pairwise_map]
  exact h.imp fun hn e => hn (by injection e with e; exact Int.ofNat.inj e)
theorem tree_same {t u : Sq28.Tree} (h1 : Rises t) (h2 : Rises u) : (t.length == u.length && t.all fun p => Sq31.place t p.thing == Sq31.place u p.thing) = decide (t = u) := by
  rw [Bool.eq_iff_iff, decide_eq_true_iff, Bool.and_eq_true, List.all_eq_true]
  constructor
  · rintro ⟨a1, a2⟩
    have a1 : t.length = u.length := by simpa using a1
    have sub : ∀ p ∈ t, p ∈ u := fun p hp => by
      have e : Sq31.place t p.thing = Sq31.place u p.thing := by simpa using a2 p hp
      rw [place_mem h2, ← e]
      exact (place_mem h1 p).mp hp
    have nd : ∀ {x : Sq28.Tree}, Rises x → (x.map (·.thing)).Nodup := fun {x} hx => by
      unfold List.Nodup
      rw [List.pairwise_map]
      exact hx.imp fun h => Nat.ne_of_lt h
    have st : ((t.map (·.thing)).length == (u.map (·.thing)).length && (t.map (·.thing)).all fun n => decide (n ∈ u.map (·.thing))) = true := by
      rw [Bool.and_eq_true, List.all_eq_true]
      refine ⟨by rw [List.length_map, List.length_map, a1]; simp, fun n hn => ?_⟩
      obtain ⟨p, hp, e⟩ := List.mem_map.mp hn
      exact decide_eq_true (List.mem_map.mpr ⟨p, sub p hp, e⟩)
    have eq := (same_set (nd h1) (nd h2)).mp st
    refine rises_unique h1 h2 fun p => ⟨sub p, fun hp => ?_⟩
    obtain ⟨p', hp', e⟩ := List.mem_map.mp ((eq p.thing).mpr (List.mem_map.mpr ⟨p, hp, rfl⟩))
    have g1 := get_of h2 (sub p' hp')
    have g2 := get_of h2 hp
    have e : p'.thing = p.thing := e
    rw [e, g2] at g1
    rw [Option.some.inj g1]
    exact hp'
  · intro e
    rw [e]
    exact ⟨by simp, fun p _ => by simp⟩
theorem all_perm {l m : List Nat} (p : l.Perm m) (f : Nat → Bool) : l.all f = m.all f := by
  rw [(Bool.eq_iff_iff), List.all_eq_true, List.all_eq_true]
  exact ⟨fun h x hx => h x (p.mem_iff.mpr hx), fun h x hx => h x (p.mem_iff.mp hx)⟩
section
variable {P : Program} {w : World} {K : PySem.W.Frag} {mg : Str → Option Value} {base : Heap} {c : Cs} {Tb : List (Addr × Str)}
theorem eq_trees {H : Hp} {a b : Addr} {t u : Sq28.Tree} {m n : Nat} {Q : VK} (h1 : TreeAt H a t m) (h2 : TreeAt H b u n) (r1 : Rises t) (r2 : Rises u) (q : Q (.bl (decide (t = u))) H) : rEqK K (.ref a) (.ref b) H Q := by
  obtain ⟨k1, a1, _, v1, ks1, e1, d1⟩ := h1
  obtain ⟨k2, a2, _, v2, ks2, e2, d2⟩ := h2
  have dp : ∀ {t : Sq28.Tree} {kvs : List (Key × V)} {ks : List Nat}, (∀ n : Nat, PlaceV H (valV kvs (Sum.inl (n : Int))) (Sq31.place t n)) → kvs.map (·.1) = ks.map (fun n : Nat => (Sum.inl (n : Int) : Key)) → ks.Nodup → ∀ p ∈ kvs, ∃ n ∈ ks, p.1 = Sum.inl (n : Int) ∧ PlaceV H (some p.2) (Sq31.place t n) := fun {t kvs ks} hv he hd p hp => by
    have hm : p.1 ∈ kvs.map (·.1) := List.mem_map.mpr ⟨p, hp, rfl⟩
    rw [he] at hm
    obtain ⟨n, hn, e⟩ := List.mem_map.mp hm
    refine ⟨n, hn, e.symm, ?_⟩
    have hv' := hv n
    rw [e, valV_in (by rw [he]; exact keys_nodup hd) hp] at hv'
    exact hv'
  have dat : ∀ {t : Sq28.Tree} {kvs : List (Key × V)} {ks : List Nat}, (∀ n : Nat, PlaceV H (valV kvs (Sum.inl (n : Int))) (Sq31.place t n)) → kvs.map (·.1) = ks.map (fun n : Nat => (Sum.inl (n : Int) : Key)) → ks.Nodup → ∀ p ∈ kvs, Dp K H p.2 (dtV H p.2) ∧ SeqAt.shaped (dtV H p.2) = true := fun {t kvs ks} hv he hd p hp => by
    obtain ⟨n, _, _, hpl⟩ := dp hv he hd p hp
    rw [(dtV_place hpl).1]
    exact ⟨plD_dp hpl, plD_shaped _⟩
  refine ⟨a, b, k1, k2, dtV H, rfl, rfl, a1, a2, dat v1 e1 d1, dat v2 e2 d2, ?_⟩
  have p1 := tree_keys r1 v1 e1 d1
  have p2 := tree_keys r2 v2 e2 d2
  have l1 : k1.length = t.length := by
    have := congrArg List.length e1
    rw [List.length_map, List.length_map] at this
    rw [this, p1.length_eq, List.length_map]
  have l2 : k2.length = u.length := by
    have := congrArg List.length e2
    rw [List.length_map, List.length_map] at this
    rw [this, p2.length_eq, List.length_map]
  have hit : k1.all (hitK (dtV H) k2) = t.all fun p => Sq31.place t p.thing == Sq31.place u p.thing := by
    have s1 : k1.all (hitK (dtV H) k2) = (k1.map (·.1)).all fun key => match key with
      | .inl i => Sq31.place t i.toNat == Sq31.place u i.toNat
      | .inr _ => false := by
      rw [List.all_map, Bool.eq_iff_iff, List.all_eq_true, List.all_eq_true]
      have each : ∀ p ∈ k1, hitK (dtV H) k2 p = (match p.1 with | .inl i => Sq31.place t i.toNat == Sq31.place u i.toNat | .inr _ => false) := fun p hp => by
        obtain ⟨n, hn, e, hpl⟩ := dp v1 e1 d1 p hp
        obtain ⟨f1, f2⟩ := dtV_place hpl
        unfold hitK
        rw [e]
        show _ = (Sq31.place t (n : Int).toNat == Sq31.place u (n : Int).toNat)
        rw [Int.toNat_natCast, f1]
        have hv2 := v2 n
        cases z : valV k2 (Sum.inl (n : Int)) with
        | none =>
          rw [z] at hv2
          cases y : Sq31.place u n with
          | none =>
            cases x : Sq31.place t n with
            | none => rw [x] at f2; cases f2
            | some _ => rfl
          | some _ => rw [y] at hv2; obtain ⟨_, h9, _⟩ := hv2; cases h9
        | some w =>
          rw [z] at hv2
          show PyData.eqv _ (dtV H w) = _
          rw [(dtV_place hv2).1, plD_eqv]
      constructor
      · exact fun hx p hp => (each p hp).symm.trans (hx p hp)
      · exact fun hx p hp => (each p hp).trans (hx p hp)
    rw [s1, e1, List.all_map]
    have s2 : (List.all ks1 ((fun key : Key => match key with | .inl i => Sq31.place t i.toNat == Sq31.place u i.toNat | .inr _ => false) ∘ fun n : Nat => (Sum.inl (n : Int) : Key))) = ks1.all fun n => Sq31.place t n == Sq31.place u n := by
      congr 1
    rw [s2, all_perm p1, List.all_map]
    rfl
  rw [hit, l1, l2, tree_same r1 r2]
  exact q
/-! ### compare -/
def spCompare (c : Cs) (T : List (Addr × Str)) : Sp := fun vs H Q _ => ∃ (a : Addr) (W : Hw) (s : S) (h : House) (k j : Nat), vs = [.ref a, I k, I j] ∧ Pre c T H a W s h ∧ Ans c T a H W (h.step (.same k j)) Q
abbrev s_compare : Stmt := top 52
theorem sc_compare : FnScope ["house", "desk", "other", "same_deeds", "same_tree"] ["house", "desk", "other"] (defScope s_compare) := ⟨rfl, rfl, rfl, by decide +kernel, rfl, by decide +kernel, by decide +kernel⟩
theorem ok_compare {f : Addr} {fd : FuncData} (F : L2.Fun K "compare" "compare" s_compare f fd) (TD : TxtD mg) (mH : C8.Met P w K mg base 1 c.H "has_desk" (spHasDesk c) []) (mA : C8.Met P w K mg base 1 c.H "knows_alike" (spAlike c) []) (mT : C8.Met P w K mg base 4 c.H "tree_at" (spTreeAt c Tb) []) :
    FnOk P w K mg base L2.CX0 5 f fd ["house", "desk", "other"] (spCompare c Tb) := by
  obtain ⟨t1, h1⟩ := TD.notFound
  refine F.ok sc_compare (fun vs H Q E h => ?_) fun cdv A outer s H vs Q E hr h => ⟨_, pss_cons (ps_if (PW.pt (pw_or (pt_not (pt_val (C8.pe_mt mH hr (by decide) (pv 0) (pa_cons (pv 1) pa_nil)))) (pw_or1 (pt_not (pt_val (C8.pe_mt mH hr (by decide) (pv 0) (pa_cons (pv 2) pa_nil))))))) (pss_one (ps_ret (pe_lst (pa_cons (pe_glob (v := .int (-2)) rfl h1 ⟨_, rfl⟩) pa_nil)))) pss_nil)
    (pss_cons (ps_set (i := 3) sc_compare.nd rfl (.inl rfl) (C8.pe_mt mA hr (by decide) (pv 0) (pa_cons (pv 1) (pa_cons (pv 2) pa_nil))))
    (pss_cons (ps_set (i := 4) sc_compare.nd rfl (.inl rfl) (pe_cmpR (op_eqK (room70 hr)) (C8.pe_mt mT hr (Nat.le_refl _) (pv 0) (pa_cons (pv 1) pa_nil)) (C8.pe_mt mT hr (Nat.le_refl _) (pv 0) (pa_cons (pv 2) pa_nil)) (nomark _)))
    (pss_one (ps_ret (pe_lst (pa_cons (pe_ifExp (pt_val (pv 3)) pe_int pe_int) (pa_cons (pe_ifExp (pt_val (pv 4)) pe_int pe_int) pa_nil))))))), ?_⟩
  · obtain ⟨a, W, s, h, k, j, rfl, _⟩ := h
    rfl
  obtain ⟨a, W, s, h, k, j, rfl, pre, q⟩ := h
  have hh := pre.at_
  refine ⟨_, rfl, a, _, _, rfl, hh.ins, hF_no (by decide +kernel) (by decide +kernel), _, rfl, a, W, s, k, rfl, hh, _, rfl, ?_⟩
  by_cases hk : k < s.known.length
  case neg =>
    have e : h.step (.same k j) = (h, Sq31.says (-2)) := if_pos (.inl (by rw [pre.fine.len]; omega))
    rw [e] at q
    rw [decide_eq_false hk]
    exact iteT (iteT ⟨(by show 1 ≤ sizeLine; decide), fun p np => q.says pre (ExtN.refl H) pre.tabs np⟩)
  rw [decide_eq_true hk]
  refine iteF ⟨_, rfl, a, _, _, rfl, hh.ins, hF_no (by decide +kernel) (by decide +kernel), _, rfl, a, W, s, j, rfl, hh, _, rfl, ?_⟩
  by_cases hj : j < s.known.length
  case neg =>
    have e : h.step (.same k j) = (h, Sq31.says (-2)) := if_pos (.inr (by rw [pre.fine.len]; omega))
    rw [e] at q
    rw [decide_eq_false hj]
    exact iteT ⟨(by show 1 ≤ sizeLine; decide), fun p np => q.says pre (ExtN.refl H) pre.tabs np⟩
  rw [decide_eq_true hj]
  have hlen := pre.fine.len
  have e0 : ¬ (h.desks.length ≤ k ∨ h.desks.length ≤ j) := by rw [hlen]; omega
  have e : h.step (.same k j) = (h, ⟨if h.desk k = h.desk j then 1 else 0, [if h.tree k = h.tree j then 1 else 0]⟩) := if_neg e0
  rw [e] at q
  refine iteF ⟨_, rfl, a, _, _, rfl, hh.ins, hF_no (by decide +kernel) (by decide +kernel), _, rfl, _, rfl, a, W, s, h, k, j, rfl, hh, pre.fine, hk, hj, ?_⟩
  refine ⟨_, rfl, a, _, _, rfl, hh.ins, hF_no (by decide +kernel) (by decide +kernel), _, rfl, a, W, s, h, k, rfl, hh, pre.fine, hk, pre.tabs, fun H1 p1 e1 t1 n1 ht1 => ?_⟩
  have pre1 := pre.ext e1 t1
  refine ⟨_, rfl, a, _, _, rfl, pre1.at_.ins, hF_no (by decide +kernel) (by decide +kernel), _, rfl, a, W, s, h, j, rfl, pre1.at_, pre.fine, hj, t1, fun H2 p2 e2 t2 n2 ht2 => ?_⟩
  have e12 : ExtN H H2 := e1.trans e2
  refine eq_trees (ht1.ext e2) ht2 (wf_treeOf _).rises (wf_treeOf _).rises ?_
  have last : ∀ (x y : Int), x = (if h.desk k = h.desk j then (1 : Int) else 0) → y = (if h.tree k = h.tree j then (1 : Int) else 0) → ∀ p, H2 p = none → Q (.ref p) (upd H2 p (.lst [V.int x, V.int y])) := fun x y hx hy p np => by
    refine q.read pre (ExtN.new e12 np) (Tabs.new t2 np) (NewN.of e12 np) ?_
    rw [upd_same, hx, hy]
    rfl
  refine ⟨_, rfl, _, rfl, ?_⟩
  by_cases c1 : h.desk k = h.desk j
  · rw [decide_eq_true c1]
    refine iteT ⟨_, rfl, _, rfl, ?_⟩
    by_cases c2 : h.tree k = h.tree j
    · rw [decide_eq_true c2]
      exact iteT ⟨(by show 2 ≤ sizeLine; decide), last 1 1 (by rw [if_pos c1]) (by rw [if_pos c2])⟩
    · rw [decide_eq_false c2]
      exact iteF ⟨(by show 2 ≤ sizeLine; decide), last 1 0 (by rw [if_pos c1]) (by rw [if_neg c2])⟩
  · rw [decide_eq_false c1]
    refine iteF ⟨_, rfl, _, rfl, ?_⟩
    by_cases c2 : h.tree k = h.tree j
    · rw [decide_eq_true c2]
      exact iteT ⟨(by show 2 ≤ sizeLine; decide), last 0 1 (by rw [if_neg c1]) (by rw [if_pos c2])⟩
    · rw [decide_eq_false c2]
      exact iteF ⟨(by show 2 ≤ sizeLine; decide), last 0 0 (by rw [if_neg c1]) (by rw [if_neg c2])⟩
end
end Hb
end

section
set_option Elab.async false
set_option linter.all false
set_option maxRecDepth 100000
set_option maxHeartbeats 2500000
namespace Hb
open L2 PySem PySem.Spec PyProof.Rows LamX
open Sq31 (Deed House)
/-! ### one call by its number -/
def oneCall (z : Int) (xs : List Nat) : Option Sq31.Call := Sq31Neutral.callOf [z :: xs.map Int.ofNat]
theorem oneCall_cases {z : Int} {xs : List Nat} {x : Sq31.Call} (h : oneCall z xs = some x) :
    (∃ a, z = 1 ∧ xs = [a] ∧ x = .begin_ a) ∨ (∃ a b d e, z = 2 ∧ xs = [a, b, d, e] ∧ x = .move a b d e) ∨ (∃ a b, z = 3 ∧ xs = [a, b] ∧ x = .back a b) ∨ (∃ a b, z = 4 ∧ xs = [a, b] ∧ x = .again a b) ∨ (∃ a, z = 5 ∧ xs = [a] ∧ x = .undo a) ∨ (∃ a, z = 6 ∧ xs = [a] ∧ x = .redo a) ∨
    (∃ a b, z = 7 ∧ xs = [a, b] ∧ x = .would a b) ∨ (∃ a b, z = 8 ∧ xs = [a, b] ∧ x = .tell a b) ∨ (∃ a b, z = 9 ∧ xs = [a, b] ∧ x = .meet a b) ∨ (∃ a, z = 10 ∧ xs = [a] ∧ x = .tree a) ∨ (∃ a, z = 11 ∧ xs = [a] ∧ x = .deeds a) ∨ (∃ a b, z = 12 ∧ xs = [a, b] ∧ x = .same a b) := by
  have i1 : ∀ {l : List Nat} {a : Int}, l.map Int.ofNat = [a] → ∃ m, l = [m] ∧ a.toNat = m := fun {l a} e => by
    match l, e with
    | [m], e => cases e; exact ⟨m, rfl, rfl⟩
  have i2 : ∀ {l : List Nat} {a b : Int}, l.map Int.ofNat = [a, b] → ∃ m n, l = [m, n] ∧ a.toNat = m ∧ b.toNat = n := fun {l a b} e => by
    match l, e with
    | [m, n], e => cases e; exact ⟨m, n, rfl, rfl, rfl⟩
  have i4 : ∀ {l : List Nat} {a b d e : Int}, l.map Int.ofNat = [a, b, d, e] → ∃ m n o p, l = [m, n, o, p] ∧ a.toNat = m ∧ b.toNat = n ∧ d.toNat = o ∧ e.toNat = p := fun {l a b d e} q => by
    match l, q with
    | [m, n, o, p], q => cases q; exact ⟨m, n, o, p, rfl, rfl, rfl, rfl, rfl⟩
  unfold oneCall Sq31Neutral.callOf at h
  dsimp only at h
  split at h
  · rename_i e; injection e with e _; injection e with e1 e2; obtain ⟨m, q1, q2⟩ := i1 e2; exact .inl ⟨m, e1, q1, by rw [← Option.some.inj h, q2]⟩
  · rename_i e; injection e with e _; injection e with e1 e2; obtain ⟨m, n, o, p, q1, q2, q3, q4, q5⟩ := i4 e2; exact .inr (.inl ⟨m, n, o, p, e1, q1, by rw [← Option.some.inj h, q2, q3, q4, q5]⟩)
  · rename_i e; injection e with e _; injection e with e1 e2; obtain ⟨m, n, q1, q2, q3⟩ := i2 e2; exact .inr (.inr (.inl ⟨m, n, e1, q1, by rw [← Option.some.inj h, q2, q3]⟩))
  · rename_i e; injection e with e _; injection e with e1 e2; obtain ⟨m, n, q1, q2, q3⟩ := i2 e2; exact .inr (.inr (.inr (.inl ⟨m, n, e1, q1, by rw [← Option.some.inj h, q2, q3]⟩)))
  · rename_i e; injection e with e _; injection e with e1 e2; obtain ⟨m, q1, q2⟩ := i1 e2; exact .inr (.inr (.inr (.inr (.inl ⟨m, e1, q1, by rw [← Option.some.inj h, q2]⟩))))
  · rename_i e; injection e with e _; injection e with e1 e2; obtain ⟨m, q1, q2⟩ := i1 e2; exact .inr (.inr (.inr (.inr (.inr (.inl ⟨m, e1, q1, by rw [← Option.some.inj h, q2]⟩)))))
  · rename_i e; injection e with e _; injection e with e1 e2; obtain ⟨m, n, q1, q2, q3⟩ := i2 e2; exact .inr (.inr (.inr (.inr (.inr (.inr (.inl ⟨m, n, e1, q1, by rw [← Option.some.inj h, q2, q3]⟩))))))
  · rename_i e; injection e with e _; injection e with e1 e2; obtain ⟨m, n, q1, q2, q3⟩ := i2 e2; exact .inr (.inr (.inr (.inr (.inr (.inr (.inr (.inl ⟨m, n, e1, q1, by rw [← Option.some.inj h, q2, q3]⟩)))))))
  · rename_i e; injection e with e _; injection e with e1 e2; obtain ⟨m, n, q1, q2, q3⟩ := i2 e2; exact .inr (.inr (.inr (.inr (.inr (.inr (.inr (.inr (.inl ⟨m, n, e1, q1, by rw [← Option.some.inj h, q2, q3]⟩))))))))
  · rename_i e; injection e with e _; injection e with e1 e2; obtain ⟨m, q1, q2⟩ := i1 e2; exact .inr (.inr (.inr (.inr (.inr (.inr (.inr (.inr (.inr (.inl ⟨m, e1, q1, by rw [← Option.some.inj h, q2]⟩)))))))))
  · rename_i e; injection e with e _; injection e with e1 e2; obtain ⟨m, q1, q2⟩ := i1 e2; exact .inr (.inr (.inr (.inr (.inr (.inr (.inr (.inr (.inr (.inr (.inl ⟨m, e1, q1, by rw [← Option.some.inj h, q2]⟩))))))))))
  · rename_i e; injection e with e _; injection e with e1 e2; obtain ⟨m, n, q1, q2, q3⟩ := i2 e2; exact .inr (.inr (.inr (.inr (.inr (.inr (.inr (.inr (.inr (.inr (.inr ⟨m, n, e1, q1, by rw [← Option.some.inj h, q2, q3]⟩))))))))))
  · cases h
theorem ifNe {i j : Int} {A B : Prop} (h : (i == j) = false) (b : B) : if decide (V.int i = V.int j) = true then A else B := by
  rw [dec_int, h]
  exact iteF b
theorem ifEq {i : Int} {A B : Prop} (a : A) : if decide (V.int i = V.int i) = true then A else B := by
  rw [decide_eq_true rfl]
  exact iteT a
section
variable {P : Program} {w : World} {K : PySem.W.Frag} {mg : Str → Option Value} {base : Heap} {c : Cs} {Tb : List (Addr × Str)}
def spAnswerTo (c : Cs) (T : List (Addr × Str)) : Sp := fun vs H Q _ => ∃ (a g : Addr) (W : Hw) (s : S) (h : House) (z : Int) (xs : List Nat) (x : Sq31.Call), vs = [.ref a, .int z, .ref g] ∧ Pre c T H a W s h ∧ H g = some (.lst (xs.map I)) ∧ oneCall z xs = some x ∧ (h.step x).2.out.length ≤ 1000000 ∧ Ans c T a H W (h.step x) Q
abbrev s_answer_to : Stmt := top 53
theorem sc_answer_to : FnScope ["house", "call", "given"] ["house", "call", "given"] (defScope s_answer_to) := ⟨rfl, rfl, rfl, by decide +kernel, rfl, by decide +kernel, by decide +kernel⟩
/-- what the calls promise -/
structure Calls (P : Program) (w : World) (K : PySem.W.Frag) (mg : Str → Option Value) (base : Heap) (c : Cs) (T : List (Addr × Str)) : Prop where
  begin_ : C8.Cal P w K mg base 2 "begin" (spBegin c T) []
  move : C8.Cal P w K mg base 5 "move" (spMove c T) []
  named : C8.Cal P w K mg base 6 "turn_named" (spNamed c T) []
  undo : C8.Cal P w K mg base 6 "undo" (spUndoC c T) []
  redo : C8.Cal P w K mg base 6 "redo" (spRedoC c T) []
  would : C8.Cal P w K mg base 5 "would" (spWould c T) []
  tell : C8.Cal P w K mg base 2 "tell" (spTell c T) []
  meet : C8.Cal P w K mg base 3 "meet" (spMeet c T) []
  tree : C8.Cal P w K mg base 5 "list_tree" (spListTree c T) []
  moves : C8.Cal P w K mg base 5 "list_moves" (spListMoves c T) []
  same : C8.Cal P w K mg base 5 "compare" (spCompare c T) []
theorem ok_answer_to {f : Addr} {fd : FuncData} (F : L2.Fun K "answer_to" "answer_to" s_answer_to f fd) (C : Calls P w K mg base c Tb) : FnOk P w K mg base L2.CX0 7 f fd ["house", "call", "given"] (spAnswerTo c Tb) := by
  refine F.ok sc_answer_to (fun vs H Q E h => ?_) fun cdv A outer s H vs Q E hr h => ⟨_, pss_cons (ps_if (pt_cmpR op_eq (pv 1) pe_int (nomark _)) (pss_one (ps_ret (C8.pe_c C.begin_ hr (by decide) rfl (pa_cons (pv 0) (pa_cons (pe_ix ix_list (pv 2) pe_int (fun _ _ => rfl)) pa_nil))))) pss_nil)
    (pss_cons (ps_if (pt_cmpR op_eq (pv 1) pe_int (nomark _)) (pss_one (ps_ret (C8.pe_c C.move hr (by decide) rfl (pa_cons (pv 0) (pa_cons (pe_ix ix_list (pv 2) pe_int (fun _ _ => rfl)) (pa_cons (pe_ix ix_list (pv 2) pe_int (fun _ _ => rfl)) (pa_cons (pe_ix ix_list (pv 2) pe_int (fun _ _ => rfl)) (pa_cons (pe_ix ix_list (pv 2) pe_int (fun _ _ => rfl)) pa_nil)))))))) pss_nil)
    (pss_cons (ps_if (pt_cmpR op_eq (pv 1) pe_int (nomark _)) (pss_one (ps_ret (C8.pe_c C.named hr (by decide) rfl (pa_cons (pv 0) (pa_cons (pe_ix ix_list (pv 2) pe_int (fun _ _ => rfl)) (pa_cons (pe_ix ix_list (pv 2) pe_int (fun _ _ => rfl)) (pa_cons pe_bl pa_nil))))))) pss_nil)
    (pss_cons (ps_if (pt_cmpR op_eq (pv 1) pe_int (nomark _)) (pss_one (ps_ret (C8.pe_c C.named hr (by decide) rfl (pa_cons (pv 0) (pa_cons (pe_ix ix_list (pv 2) pe_int (fun _ _ => rfl)) (pa_cons (pe_ix ix_list (pv 2) pe_int (fun _ _ => rfl)) (pa_cons pe_bl pa_nil))))))) pss_nil)
    (pss_cons (ps_if (pt_cmpR op_eq (pv 1) pe_int (nomark _)) (pss_one (ps_ret (C8.pe_c C.undo hr (by decide) rfl (pa_cons (pv 0) (pa_cons (pe_ix ix_list (pv 2) pe_int (fun _ _ => rfl)) pa_nil))))) pss_nil)
    (pss_cons (ps_if (pt_cmpR op_eq (pv 1) pe_int (nomark _)) (pss_one (ps_ret (C8.pe_c C.redo hr (by decide) rfl (pa_cons (pv 0) (pa_cons (pe_ix ix_list (pv 2) pe_int (fun _ _ => rfl)) pa_nil))))) pss_nil)
    (pss_cons (ps_if (pt_cmpR op_eq (pv 1) pe_int (nomark _)) (pss_one (ps_ret (C8.pe_c C.would hr (by decide) rfl (pa_cons (pv 0) (pa_cons (pe_ix ix_list (pv 2) pe_int (fun _ _ => rfl)) (pa_cons (pe_ix ix_list (pv 2) pe_int (fun _ _ => rfl)) pa_nil)))))) pss_nil)
    (pss_cons (ps_if (pt_cmpR op_eq (pv 1) pe_int (nomark _)) (pss_one (ps_ret (C8.pe_c C.tell hr (by decide) rfl (pa_cons (pv 0) (pa_cons (pe_ix ix_list (pv 2) pe_int (fun _ _ => rfl)) (pa_cons (pe_ix ix_list (pv 2) pe_int (fun _ _ => rfl)) pa_nil)))))) pss_nil)
    (pss_cons (ps_if (pt_cmpR op_eq (pv 1) pe_int (nomark _)) (pss_one (ps_ret (C8.pe_c C.meet hr (by decide) rfl (pa_cons (pv 0) (pa_cons (pe_ix ix_list (pv 2) pe_int (fun _ _ => rfl)) (pa_cons (pe_ix ix_list (pv 2) pe_int (fun _ _ => rfl)) pa_nil)))))) pss_nil)
    (pss_cons (ps_if (pt_cmpR op_eq (pv 1) pe_int (nomark _)) (pss_one (ps_ret (C8.pe_c C.tree hr (by decide) rfl (pa_cons (pv 0) (pa_cons (pe_ix ix_list (pv 2) pe_int (fun _ _ => rfl)) pa_nil))))) pss_nil)
    (pss_cons (ps_if (pt_cmpR op_eq (pv 1) pe_int (nomark _)) (pss_one (ps_ret (C8.pe_c C.moves hr (by decide) rfl (pa_cons (pv 0) (pa_cons (pe_ix ix_list (pv 2) pe_int (fun _ _ => rfl)) pa_nil))))) pss_nil)
    (pss_one (ps_ret (C8.pe_c C.same hr (by decide) rfl (pa_cons (pv 0) (pa_cons (pe_ix ix_list (pv 2) pe_int (fun _ _ => rfl)) (pa_cons (pe_ix ix_list (pv 2) pe_int (fun _ _ => rfl)) pa_nil)))))))))))))))), ?_⟩
  · obtain ⟨a, g, W, s, h, z, xs, x, rfl, _⟩ := h
    rfl
  obtain ⟨a, g, W, s, h, z, xs, x, rfl, pre, hg, hx, hb, q⟩ := h
  rcases oneCall_cases hx with ⟨k, rfl, rfl, rfl⟩ | ⟨k, i, j, m, rfl, rfl, rfl⟩ | ⟨k, i, rfl, rfl, rfl⟩ | ⟨k, i, rfl, rfl, rfl⟩ | ⟨k, rfl, rfl, rfl⟩ | ⟨k, rfl, rfl, rfl⟩ | ⟨k, i, rfl, rfl, rfl⟩ | ⟨k, i, rfl, rfl, rfl⟩ | ⟨k, i, rfl, rfl, rfl⟩ | ⟨k, rfl, rfl, rfl⟩ | ⟨k, rfl, rfl, rfl⟩ | ⟨k, i, rfl, rfl, rfl⟩
  · exact ⟨_, rfl, rfl, _, rfl, ifEq ⟨_, rfl, _, rfl, g, _, _, _, rfl, rfl, SqL.of hg, atI_nat (j := 0) rfl, a, W, s, h, k, rfl, pre, q⟩⟩
  · refine ⟨_, rfl, rfl, _, rfl, ifNe (by decide) ?_⟩
    exact ⟨_, rfl, rfl, _, rfl, ifEq ⟨_, rfl, _, rfl, g, _, _, _, rfl, rfl, SqL.of hg, atI_nat (j := 0) rfl, _, rfl, g, _, _, _, rfl, rfl, SqL.of hg, atI_nat (j := 1) rfl, _, rfl, g, _, _, _, rfl, rfl, SqL.of hg, atI_nat (j := 2) rfl, _, rfl, g, _, _, _, rfl, rfl, SqL.of hg, atI_nat (j := 3) rfl, a, W, s, h, k, i, j, m, rfl, pre, q⟩⟩
  · iterate 2 refine ⟨_, rfl, rfl, _, rfl, ifNe (by decide) ?_⟩
    rw [back_named] at q
    exact ⟨_, rfl, rfl, _, rfl, ifEq ⟨_, rfl, _, rfl, g, _, _, _, rfl, rfl, SqL.of hg, atI_nat (j := 0) rfl, _, rfl, g, _, _, _, rfl, rfl, SqL.of hg, atI_nat (j := 1) rfl, a, W, s, h, k, i, false, rfl, pre, q⟩⟩
  · iterate 3 refine ⟨_, rfl, rfl, _, rfl, ifNe (by decide) ?_⟩
    rw [again_named] at q
    exact ⟨_, rfl, rfl, _, rfl, ifEq ⟨_, rfl, _, rfl, g, _, _, _, rfl, rfl, SqL.of hg, atI_nat (j := 0) rfl, _, rfl, g, _, _, _, rfl, rfl, SqL.of hg, atI_nat (j := 1) rfl, a, W, s, h, k, i, true, rfl, pre, q⟩⟩
  · iterate 4 refine ⟨_, rfl, rfl, _, rfl, ifNe (by decide) ?_⟩
    exact ⟨_, rfl, rfl, _, rfl, ifEq ⟨_, rfl, _, rfl, g, _, _, _, rfl, rfl, SqL.of hg, atI_nat (j := 0) rfl, a, W, s, h, k, rfl, pre, q⟩⟩
  · iterate 5 refine ⟨_, rfl, rfl, _, rfl, ifNe (by decide) ?_⟩
    exact ⟨_, rfl, rfl, _, rfl, ifEq ⟨_, rfl, _, rfl, g, _, _, _, rfl, rfl, SqL.of hg, atI_nat (j := 0) rfl, a, W, s, h, k, rfl, pre, q⟩⟩
  · iterate 6 refine ⟨_, rfl, rfl, _, rfl, ifNe (by decide) ?_⟩
    exact ⟨_, rfl, rfl, _, rfl, ifEq ⟨_, rfl, _, rfl, g, _, _, _, rfl, rfl, SqL.of hg, atI_nat (j := 0) rfl, _, rfl, g, _, _, _, rfl, rfl, SqL.of hg, atI_nat (j := 1) rfl, a, W, s, h, k, i, rfl, pre, q⟩⟩
  · iterate 7 refine ⟨_, rfl, rfl, _, rfl, ifNe (by decide) ?_⟩
    exact ⟨_, rfl, rfl, _, rfl, ifEq ⟨_, rfl, _, rfl, g, _, _, _, rfl, rfl, SqL.of hg, atI_nat (j := 0) rfl, _, rfl, g, _, _, _, rfl, rfl, SqL.of hg, atI_nat (j := 1) rfl, a, W, s, h, k, i, rfl, pre, q⟩⟩
  · iterate 8 refine ⟨_, rfl, rfl, _, rfl, ifNe (by decide) ?_⟩
    exact ⟨_, rfl, rfl, _, rfl, ifEq ⟨_, rfl, _, rfl, g, _, _, _, rfl, rfl, SqL.of hg, atI_nat (j := 0) rfl, _, rfl, g, _, _, _, rfl, rfl, SqL.of hg, atI_nat (j := 1) rfl, a, W, s, h, k, i, rfl, pre, q⟩⟩
  · iterate 9 refine ⟨_, rfl, rfl, _, rfl, ifNe (by decide) ?_⟩
    exact ⟨_, rfl, rfl, _, rfl, ifEq ⟨_, rfl, _, rfl, g, _, _, _, rfl, rfl, SqL.of hg, atI_nat (j := 0) rfl, a, W, s, h, k, rfl, pre, hb, q⟩⟩
  · iterate 10 refine ⟨_, rfl, rfl, _, rfl, ifNe (by decide) ?_⟩
    exact ⟨_, rfl, rfl, _, rfl, ifEq ⟨_, rfl, _, rfl, g, _, _, _, rfl, rfl, SqL.of hg, atI_nat (j := 0) rfl, a, W, s, h, k, rfl, pre, q⟩⟩
  · iterate 11 refine ⟨_, rfl, rfl, _, rfl, ifNe (by decide) ?_⟩
    exact ⟨_, rfl, _, rfl, g, _, _, _, rfl, rfl, SqL.of hg, atI_nat (j := 0) rfl, _, rfl, g, _, _, _, rfl, rfl, SqL.of hg, atI_nat (j := 1) rfl, a, W, s, h, k, i, rfl, pre, q⟩
end
end Hb
end

section
set_option Elab.async false
set_option linter.all false
set_option maxRecDepth 100000
set_option maxHeartbeats 2500000
namespace Hb
open L2 PySem PySem.Spec PyProof.Rows LamX
open Sq31 (Deed House)
/-! ### d[k], d a dict that the top has written, its keys whole numbers -/
def IntKeys (es : Array DictEntry) : Prop := ∀ e ∈ es, ∃ (i : Int) (t : Tok), e.key = .int i t ∧ e.hash = hashInt i
def KInt (K : PySem.W.Frag) (a : Addr) (z : Int) (v : V) : Prop := ∃ es n u, K.lookup a = some ⟨.type "dict", none, .dict es n, #[]⟩ ∧ IntKeys es ∧ findBy Value.isInt es z = some u ∧ RelV v u
def rIxI (K : PySem.W.Frag) : R2 := fun x y H Q => ∃ p z v, x = .ref p ∧ y = .int z ∧ KInt K p z v ∧ Q v H
theorem ix_kint {X : Cx} : IxR X (rIxI X.K) := by
  intro value slice pins s σ H x y v u Q I rx ry h ha
  obtain ⟨p, z, r, rfl, rfl, ⟨es, n, u0, hl, hk, hf, ru⟩, q⟩ := h
  obtain rfl : v = Value.ref p := (rx)
  obtain ⟨t, rfl⟩ := (show ∃ t, u = Value.int z t from ry)
  have hm : s.heap.MapOf (intKind X.prog X.w) p (fun k => findBy Value.isInt es k) := ⟨_, es, n, I.kIn _ _ hl, ⟨rfl, rfl, rfl⟩, rfl, fun e he => by
    obtain ⟨i, t, e1, e2⟩ := hk e he
    exact ⟨i, by rw [e1]; exact intKind_is X.prog X.w i t, e2⟩, fun _ => rfl⟩
  exact tail_any hm.typeIs slot_dict_getitem.lookup (wpAny_getItem_of (intKind_is X.prog X.w z t) hm hf ⟨r, H, I.tok _, ru, q⟩) ha
/-- how many numbers a call hands over -/
structure TxtS (K : PySem.W.Frag) (mg : Str → Option Value) : Prop where
  ex : ∃ d, mg "SIZES" = some (.ref d) ∧ ∀ (z : Int) (n m : Nat), PySq31.shape z = some (n, m) → m = 0 ∧ KInt K d z (I n)
/-- the check of the written dict -/
def chkE (e : DictEntry) : Bool := match e.key with
  | .int i _ => e.hash == hashInt i
  | _ => false
def chkS (es : Array DictEntry) (z : Int) : Bool := match findBy Value.isInt es z, PySq31.shape z with
  | some (.int v _), some (n, m) => v == (n : Int) && m == 0
  | _, _ => false
def chk (es : Array DictEntry) : Bool := es.toList.all chkE && ([1, 2, 3, 4, 5, 6, 7, 8, 9, 10, 11, 12] : List Int).all (chkS es)
theorem shape_in {z : Int} {p : Nat × Nat} (h : PySq31.shape z = some p) : z ∈ ([1, 2, 3, 4, 5, 6, 7, 8, 9, 10, 11, 12] : List Int) := by
  refine (Classical.byContradiction fun hn => ?_)
  have hne : ∀ i ∈ ([1, 2, 3, 4, 5, 6, 7, 8, 9, 10, 11, 12] : List Int), ¬ z = i := fun i hi e => hn (by rw [e]; exact hi)
  unfold PySq31.shape at h
  rw [if_neg (hne 1 (by decide)), if_neg (hne 2 (by decide)), if_neg (hne 3 (by decide)), if_neg (hne 4 (by decide)), if_neg (hne 5 (by decide)), if_neg (hne 6 (by decide)), if_neg (hne 7 (by decide)), if_neg (hne 8 (by decide)), if_neg (hne 9 (by decide)), if_neg (hne 10 (by decide)), if_neg (hne 11 (by decide)), if_neg (hne 12 (by decide))] at h
  cases h
theorem TxtS.of {K : PySem.W.Frag} {mg : Str → Option Value} {d : Addr} {es : Array DictEntry} {n : Nat} (hm : mg "SIZES" = some (.ref d)) (hl : K.lookup d = some ⟨.type "dict", none, .dict es n, #[]⟩) (hc : chk es = true) : TxtS K mg := by
  unfold chk at hc
  rw [Bool.and_eq_true, List.all_eq_true, List.all_eq_true] at hc
  refine ⟨d, hm, fun z k m hs => ?_⟩
  have h2 := hc.2 z (shape_in hs)
  unfold chkS at h2
  rw [hs] at h2
  cases hf : findBy Value.isInt es z with
  | none => rw [hf] at h2; cases h2
  | some u =>
    rw [hf] at h2
    cases u with
    | int v t =>
      dsimp only at h2
      rw [Bool.and_eq_true] at h2
      refine ⟨by simpa using h2.2, es, n, .int v t, hl, fun e he => ?_, hf, ?_⟩
      · have := hc.1 e (Array.mem_toList_iff.mpr he)
        unfold chkE at this
        cases hk : e.key with
        | int i t' =>
          rw [hk] at this
          exact ⟨i, t', rfl, by simpa using this⟩
        | _ => rw [hk] at this; cases this
      · have : v = (k : Int) := by simpa using h2.1
        rw [this]
        exact ⟨t, rfl⟩
    | _ => cases h2

/-! ### the list of calls -/
theorem whole_id (x : List (List Int)) : PySq31.whole x = x := by
  unfold PySq31.whole
  split <;> rfl
theorem map_whole (cs : List (List (List Int))) : cs.map PySq31.whole = cs := by
  induction cs with
  | nil => rfl
  | cons x cs ih => rw [List.map_cons, ih, whole_id]
theorem calls_cons {f : Nat} {p : Int} {r : List Int} {cs : List (List (List Int))} (hz : ∀ (z : Int) (n m : Nat), PySq31.shape z = some (n, m) → m = 0) (h : PyFlat.calls PySq31.shape f (p :: r) = some cs) :
    ∃ f' n cs', PySq31.shape p = some (n, 0) ∧ n ≤ r.length ∧ PyFlat.calls PySq31.shape f' (r.drop n) = some cs' ∧ cs = [p :: r.take n] :: cs' := by
  cases f with
  | zero => cases h
  | succ f =>
    unfold PyFlat.calls at h
    cases hs : PySq31.shape p with
    | none =>
      have : PyFlat.call PySq31.shape (p :: r) = none := by unfold PyFlat.call; dsimp only; rw [hs]
      rw [this] at h
      cases h
    | some nm =>
      obtain ⟨n, m⟩ := nm
      have hm := hz p n m hs
      subst hm
      by_cases hl : r.length < n
      · have : PyFlat.call PySq31.shape (p :: r) = none := by unfold PyFlat.call; dsimp only; rw [hs]; exact if_pos hl
        rw [this] at h
        cases h
      · have : PyFlat.call PySq31.shape (p :: r) = some ([p :: r.take n], r.drop n) := by
          unfold PyFlat.call
          dsimp only
          rw [hs]
          exact (if_neg hl).trans rfl
        rw [this] at h
        dsimp only at h
        cases hc : PyFlat.calls PySq31.shape f (r.drop n) with
        | none => rw [(hc)] at h; cases h
        | some cs' =>
          rw [hc] at h
          exact ⟨f, n, cs', rfl, by omega, hc, (Option.some.inj h).symm⟩
theorem asked_call {x : List (List Int)} (h : Sq31Neutral.asked1 x = true) : ∃ y, Sq31Neutral.callOf x = some y := by
  unfold Sq31Neutral.asked1 at h
  split at h
  all_goals first | exact ⟨_, rfl⟩ | cases h
theorem nats {xs : List Int} (h : ∀ y ∈ xs, 0 ≤ y) : ∃ ns : List Nat, xs = ns.map Int.ofNat := by
  induction xs with
  | nil => exact ⟨[], rfl⟩
  | cons y xs ih =>
    obtain ⟨ns, e⟩ := ih fun z hz => h z (List.mem_cons_of_mem _ hz)
    obtain ⟨n, hn⟩ := Int.eq_ofNat_of_zero_le (h y List.mem_cons_self)
    refine ⟨n :: ns, ?_⟩
    rw [List.map_cons, e, hn]
    rfl
theorem told_cons (a : List Int) (l : List (List Int)) : PyFlat.told (a :: l) = (a.length : Int) :: a ++ PyFlat.told l := by
  unfold PyFlat.told
  rw [List.flatMap_cons]
theorem cut_is (ns : List Int) (i n : Nat) (h : i + 1 + n ≤ ns.length) : cutV (ns.map V.int) (some (((i + 1 : Nat)) : Int)) (some (((i + 1 + n : Nat)) : Int)) = ((ns.drop (i + 1)).take n).map V.int := by
  unfold cutV
  rw [HT.sIx_nat, HT.sIx_nat, List.length_map, Nat.min_eq_left (by omega), Nat.min_eq_left (by omega), List.map_take, List.map_drop]
  congr 1
  omega
section
variable {P : Program} {w : World} {K : PySem.W.Frag} {mg : Str → Option Value} {base : Heap} {c : Cs} {Tb : List (Addr × Str)}
theorem HouseAt.other {H : Hp} {a : Addr} {W : Hw} {s : S} (h : HouseAt c H a W s) {u : Addr} {xs ys : List V} (hu : H u = some (.lst xs)) (hf : u ∉ foot a W) : HouseAt c (upd H u (.lst ys)) a W s := by
  have up : ∀ b o, H b = some o → b ≠ u → upd H u (.lst ys) b = some o := fun b o hb hn => by rw [upd_ne hn]; exact hb
  refine ⟨up _ _ h.ins (fun z => hf (by rw [← z]; exact List.mem_cons_self)), up _ _ h.done (fun z => hf (by rw [← z]; exact List.mem_cons_of_mem _ List.mem_cons_self)), fun r hr => ?_, h.secs, up _ _ h.known (fun z => hf (by rw [← z]; exact List.mem_cons_of_mem _ (List.mem_cons_of_mem _ List.mem_cons_self))), h.ne, h.nd, h.len,
    fun k b l h1 h2 => up _ _ (h.dict k b l h1 h2) (fun z => hf (by rw [← z]; exact List.mem_cons_of_mem _ (List.mem_cons_of_mem _ (List.mem_cons_of_mem _ (List.mem_of_getElem? h1)))))⟩
  obtain ⟨dx, t, h1, h2⟩ := h.rows r hr
  exact ⟨dx, t, up _ _ h1 (fun z => by rw [z, hu] at h1; cases h1), up _ _ h2 (fun z => by rw [z, hu] at h2; cases h2)⟩
def spAnswers (K : PySem.W.Frag) (T : List (Addr × Str)) : Sp := fun vs H Q _ => ∃ (l : Addr) (ns : List Int), vs = [.ref l] ∧ SqL K H l (ns.map V.int) ∧ (∀ y ∈ ns, 0 ≤ y) ∧ PySq31.answers_asked ns = true ∧ Tabs T H ∧
  ∀ (H' : Hp) (p : Addr), H' p = some (.lst ((PySq31.answers ns).map V.int)) → Q (.ref p) H'
abbrev s_answers : Stmt := top 54
theorem sc_answers : FnScope ["calls", "house", "told", "place", "call", "behind", "answered"] ["calls"] (defScope s_answers) := ⟨rfl, rfl, rfl, by decide +kernel, rfl, by decide +kernel, by decide +kernel⟩
/-- the loop's invariant -/
def AInv (c : Cs) (T : List (Addr × Str)) (H : Hp) (l a u : Addr) (ns : List Int) (m : Nat) (σ : L2.St) (H' : Hp) : Prop := ∃ (x y z : Option V) (i f : Nat) (cs : List (List (List Int))) (acc : List Int) (W : Hw) (s : S) (h : House),
  σ = [some (.ref l), some (.ref a), some (.ref u), some (I i), x, y, z] ∧ m = ns.length - i ∧ i ≤ ns.length ∧ PyFlat.calls PySq31.shape f (ns.drop i) = some cs ∧ cs.all Sq31Neutral.asked1 = true ∧ Sq31Neutral.outs h cs < 1000000 ∧
  acc ++ PyFlat.told (PyFlat.played Sq31Neutral.step h cs) = PySq31.answers ns ∧ Pre c T H' a W s h ∧ (∀ b ∈ foot a W, NewN H b) ∧ ExtN H H' ∧ NewN H u ∧ u ∉ foot a W ∧ H' u = some (.lst (acc.map V.int))
theorem ok_answers {f : Addr} {fd : FuncData} (F : L2.Fun K "answers" "answers" s_answers f fd) (T : Txt K mg c) (TS : TxtS K mg) (mk : C8.Mak P w K mg base 1 "House" c.H (spHouse c) []) (cA : C8.Cal P w K mg base 7 "answer_to" (spAnswerTo c Tb) []) :
    FnOk P w K mg base L2.CX0 8 f fd ["calls"] (spAnswers K Tb) := by
  obtain ⟨dS, hS, hSz⟩ := TS.ex
  obtain ⟨fH, fdH, psH, dsH, MkH, FH, hmH, bH, dH⟩ := mk.ex
  refine F.ok sc_answers (fun vs H Q E h => ?_) fun cdv A outer s H vs Q E hr h => ⟨_, pss_cons (ps_set (i := 1) sc_answers.nd rfl (.inl rfl) (pe_make0 MkH FH (hr.mono (by decide)) rfl hmH bH dH pass0))
    (pss_cons (ps_set (i := 2) sc_answers.nd rfl (.inl rfl) (pe_lst pa_nil)) (pss_cons (ps_set (i := 3) sc_answers.nd rfl (.inl rfl) pe_int)
    (pss_cons (ps_while PassesOwn.never (pt_cmpR op_lt (pv 3) (pe_callB call_len_seq (by rfl) T.bLen PySem.boot_len (pa_cons (pv 0) pa_nil)) (nomark _))
      (pss_cons (ps_set (i := 4) sc_answers.nd rfl (.inl rfl) (pe_ix ix_list (pv 0) (pv 3) (fun _ _ => rfl)))
      (pss_cons (ps_set (i := 5) sc_answers.nd rfl (.inl rfl) (pe_op op_add (pe_op op_add (pv 3) pe_int) (pe_ix ix_kint (pe_glob (v := .ref dS) rfl hS rfl) (pv 4) (fun _ _ => rfl))))
      (pss_cons (ps_set (i := 6) sc_answers.nd rfl (.inl rfl) (C8.pe_c cA hr (Nat.le_refl _) rfl (pa_cons (pv 1) (pa_cons (pv 4) (pa_cons (pe_slice sl_list (pv 0) (po_some (pe_op op_add (pv 3) pe_int)) (po_some (pv 5))) pa_nil)))))
      (pss_cons (ps_expr (pe_bm PySem.F.plainAttrs_list PySem.F.slot_list_append PySem.F.type_list_append mt_append (pv 2) (pa_cons (pe_callB call_len_seq (by rfl) T.bLen PySem.boot_len (pa_cons (pv 6) pa_nil)) pa_nil)))
      (pss_cons (ps_expr (pe_bm PySem.F.plainAttrs_list PySem.F.slot_list_extend PySem.F.type_list_extend mt_extend (pv 2) (pa_cons (pv 6) pa_nil)))
      (pss_one (ps_set (i := 3) sc_answers.nd rfl (.inl rfl) (pv 5)))))))))
    (pss_one (ps_ret (pv 2)))))), ?_⟩
  · obtain ⟨l, ns, rfl, _⟩ := h
    rfl
  obtain ⟨l, ns, rfl, hl, hpos, hask, ht, q⟩ := h
  -- what is asked
  have hz : ∀ (z : Int) (n m : Nat), PySq31.shape z = some (n, m) → m = 0 := fun z n m e => (hSz z n m e).1
  obtain ⟨cs0, hc0, hall0, houts0, hans, hshort⟩ : ∃ cs0, PyFlat.calls PySq31.shape ns.length ns = some cs0 ∧ cs0.all Sq31Neutral.asked1 = true ∧ Sq31Neutral.outs Sq31Neutral.start cs0 < 1000000 ∧ PySq31.answers ns = PyFlat.told (PyFlat.played Sq31Neutral.step Sq31Neutral.start cs0) ∧ (PySq31.answers ns).length ≤ 10000000 := by
    unfold PySq31.answers_asked at hask
    cases hc : PyFlat.calls PySq31.shape ns.length ns with
    | none => rw [hc] at hask; cases hask
    | some raw =>
      rw [hc] at hask
      dsimp only at hask
      rw [Bool.and_eq_true, Bool.and_eq_true, map_whole] at hask
      obtain ⟨⟨_, h2⟩, h3⟩ := hask
      unfold Sq31Neutral.asked at h2
      rw [Bool.and_eq_true, Bool.and_eq_true, Bool.and_eq_true] at h2
      refine ⟨raw, rfl, h2.2.2.1, of_decide_eq_true h2.2.2.2, ?_, ?_⟩
      · unfold PySq31.answers PySq31.calls
        rw [hc]
        dsimp only
        rw [map_whole]
      · unfold PyFlat.short at h3
        exact of_decide_eq_true h3
  -- House(), [], 0
  intro a dx na nd ne
  refine ⟨a, dx, rfl, upd_same, fun H1 W1 hh1 ft1 keep1 => ⟨rfl, ?_⟩⟩
  have e1 : Same H H1 := made_same na nd keep1
  have ftn : ∀ b ∈ foot a W1, NewN H b := fun b hb => by
    rcases ft1 b hb with z | z
    · rw [z]; exact NewN.none na
    · refine NewN.none ?_
      have hba : b ≠ a := fun y => by rw [y, upd_same] at z; cases z
      rw [upd_ne hba] at z
      by_cases hbd : b = dx
      · rw [hbd, upd_same] at z; cases z
      · rw [upd_ne hbd] at z; exact z
  have t1 : Tabs Tb H1 := ht.ext e1
  refine ⟨Nat.zero_le _, fun u nu => ?_⟩
  have e2 := same_new (o := .lst []) (Same.refl H1) nu
  have hu : upd H1 u (.lst []) u = some (.lst []) := upd_same
  have uout : u ∉ foot a W1 := hh1.new_out (NewN.none nu)
  have nuH : NewN H u := NewN.of (extN_of_same e1) nu
  generalize upd H1 u (.lst []) = H2 at e2 hu
  have fine0 : Fine ⟨[], [[]]⟩ Sq31Neutral.start := ⟨Good.begin_ 1, by show 0 ≤ 120; decide, by show 1 ≤ 8; decide⟩
  refine ⟨AInv c Tb H l a u ns, ⟨_, none, none, none, 0, ns.length, cs0, [], W1, _, Sq31Neutral.start, rfl, rfl, Nat.zero_le _, hc0, hall0, houts0, hans.symm, ⟨hh1.ext (extN_of_same e2), fine0, t1.ext e2⟩, ftn, extN_of_same (e1.trans e2), nuH, uout, hu⟩, ?_⟩
  rintro m σ H' ⟨x, y, z, i, fu, cs, acc, W, s, h, rfl, hm, hi, hcs, hall, houts, hacc, pre, hft, hext, _, huo, hua⟩
  refine ⟨_, rfl, _, rfl, _, _, rfl, .inl (sqL_ext hl hext), _, _, rfl, rfl, _, rfl, ?_⟩
  rw [List.length_map]
  by_cases hlt : i < ns.length
  case neg =>
    have hd : decide ((i : Int) < (ns.length : Int)) = false := decide_eq_false (by omega)
    rw [hd]
    refine iteF ⟨_, rfl, q H' u ?_⟩
    have : ns.drop i = [] := List.drop_eq_nil_of_le (by omega)
    rw [this] at hcs
    have hcs0 : cs = [] := by
      cases fu <;> exact (Option.some.inj hcs).symm
    rw [hcs0] at hacc
    have hacc : acc = PySq31.answers ns := by
      rw [← hacc]
      exact (List.append_nil acc).symm
    rw [← hacc]
    exact hua
  have hd : decide ((i : Int) < (ns.length : Int)) = true := decide_eq_true (by omega)
  rw [hd]
  refine iteT ⟨fun σ' H2 => ∃ m', m' < m ∧ AInv c Tb H l a u ns m' σ' H2, fun _ _ y => y, ?_⟩
  have hdrop : ns.drop i = ns[i] :: ns.drop (i + 1) := List.drop_eq_getElem_cons hlt
  rw [hdrop] at hcs
  obtain ⟨f', n, cs', hsh, hn, hcs', rfl⟩ := calls_cons hz hcs
  rw [List.drop_drop] at hcs'
  rw [List.length_drop] at hn
  have hkint := (hSz _ _ _ hsh).2
  rw [(List.all_cons), Bool.and_eq_true] at hall
  obtain ⟨call, hcall⟩ := asked_call hall.1
  obtain ⟨xs, hxs⟩ := nats (xs := (ns.drop (i + 1)).take n) fun y hy => hpos y (List.mem_of_mem_drop (List.mem_of_mem_take hy))
  rw [hxs] at hcall
  have hcall' : oneCall ns[i] xs = some call := hcall
  have hstep : Sq31Neutral.step h [ns[i] :: (ns.drop (i + 1)).take n] = ((h.step call).1, (h.step call).2.value :: (h.step call).2.out) := by
    unfold Sq31Neutral.step
    rw [hxs, hcall]
  have hixn : (ns.map V.int)[i]? = some (V.int ns[i]) := by rw [List.getElem?_map, List.getElem?_eq_getElem hlt]; rfl
  generalize hzz : ns[i] = zc at *
  -- the outputs
  have ho : Sq31Neutral.outs h ([zc :: (ns.drop (i + 1)).take n] :: cs') = ((h.step call).2.out.length + 1) + Sq31Neutral.outs (h.step call).1 cs' := by
    show (Sq31Neutral.step h [zc :: (ns.drop (i + 1)).take n]).2.length + Sq31Neutral.outs (Sq31Neutral.step h [zc :: (ns.drop (i + 1)).take n]).1 cs' = _
    rw [hstep]
    rfl
  rw [ho] at houts
  have hp : PyFlat.played Sq31Neutral.step h ([zc :: (ns.drop (i + 1)).take n] :: cs') = ((h.step call).2.value :: (h.step call).2.out) :: PyFlat.played Sq31Neutral.step (h.step call).1 cs' := by
    show (Sq31Neutral.step h [zc :: (ns.drop (i + 1)).take n]).2 :: PyFlat.played Sq31Neutral.step (Sq31Neutral.step h [zc :: (ns.drop (i + 1)).take n]).1 cs' = _
    rw [hstep]
  rw [hp, told_cons] at hacc
  have hlen := congrArg List.length hacc
  rw [List.length_append, List.cons_append, List.length_cons, List.length_append] at hlen
  -- call = calls[place]; behind = ..
  refine ⟨_, rfl, _, rfl, l, _, _, _, rfl, rfl, sqL_ext hl hext, atI_nat hixn, ?_⟩
  refine ⟨_, rfl, _, _, rfl, rfl, _, rfl, dS, zc, I n, rfl, rfl, hkint, _, _, rfl, rfl, ?_⟩
  -- answered = answer_to(..)
  have ebh : V.int ((i : Int) + 1 + (n : Int)) = I (i + 1 + n) := congrArg V.int (by omega)
  refine ⟨_, rfl, _, rfl, _, rfl, _, rfl, _, _, rfl, rfl, (i : Int) + 1, rfl, _, rfl, (i : Int) + 1 + (n : Int), rfl, l, _, rfl, sqL_ext hl hext, fun g ng => ?_⟩
  have ecut : cutV (ns.map V.int) (some ((i : Int) + 1)) (some ((i : Int) + 1 + (n : Int))) = xs.map I := by
    have := cut_is ns i n (by omega)
    have e1 : (((i + 1 : Nat)) : Int) = (i : Int) + 1 := by omega
    have e2 : (((i + 1 + n : Nat)) : Int) = (i : Int) + 1 + (n : Int) := by omega
    rw [e1, e2, hxs, List.map_map] at this
    exact this
  rw [ecut]
  have e3 := same_new (o := .lst (xs.map I)) (Same.refl H') ng
  have hg : upd H' g (.lst (xs.map I)) g = some (.lst (xs.map I)) := upd_same
  generalize upd H' g (.lst (xs.map I)) = H3 at e3 hg
  have pre3 := pre.same e3
  refine ⟨a, g, W, s, h, zc, xs, call, rfl, pre3, hg, hcall', by omega, fun H4 W4 s4 p hh4 f4 st4 t4 np pout hp4 => ?_⟩
  -- where all lies then
  have hext3 : ExtN H H3 := hext.trans (extN_of_same e3)
  have hext4 : ExtN H H4 := fun b o hb ho => st4.keep b o (hext3 b o hb ho) ho (fun z => by obtain ⟨ps, e⟩ := hft b z o hb; exact ho ps e)
  have hft4 : ∀ b ∈ foot a W4, NewN H b := fun b hb => by
    rcases st4.sub b hb with z | z
    · exact hft b z
    · exact fun o ho => Classical.byContradiction fun y => by
        obtain ⟨ps, e⟩ := z o (hext3 b o ho fun ps e => y ⟨ps, e⟩)
        exact y ⟨ps, e⟩
  have hu3 : H3 u = some (.lst (acc.map V.int)) := e3 _ _ hua
  have hu4 : H4 u = some (.lst (acc.map V.int)) := st4.keep _ _ hu3 notTbl_lst huo
  have uout4 : u ∉ foot a W4 := st4.out hu3 notTbl_lst huo
  have hpu : p ≠ u := fun z => by
    rcases np with np | np
    · obtain ⟨ps, e⟩ := np _ (by rw [z]; exact hu3)
      cases e
    · exact huo (by rw [← z]; exact np)
  -- told.append(..)
  refine ⟨_, rfl, .inl ⟨rfl, _, SqL.of hu4⟩, _, rfl, _, _, rfl, .inl (SqL.of hp4), _, _, _, rfl, rfl, hu4, by rw [List.length_map, sizeLine_eq]; omega, ?_⟩
  rw [List.length_map]
  have ea : acc.map V.int ++ [V.int ((((h.step call).2.value :: (h.step call).2.out).length : Nat) : Int)] = (acc ++ [((((h.step call).2.value :: (h.step call).2.out).length : Nat) : Int)]).map V.int := by rw [List.map_append]; rfl
  rw [ea]
  have hu5 : upd H4 u (.lst ((acc ++ [((((h.step call).2.value :: (h.step call).2.out).length : Nat) : Int)]).map V.int)) u = some (.lst ((acc ++ [((((h.step call).2.value :: (h.step call).2.out).length : Nat) : Int)]).map V.int)) := upd_same
  have hp5 : upd H4 u (.lst ((acc ++ [((((h.step call).2.value :: (h.step call).2.out).length : Nat) : Int)]).map V.int)) p = some (.lst (((h.step call).2.value :: (h.step call).2.out).map V.int)) := by rw [upd_ne hpu]; exact hp4
  have hh5 := hh4.other (ys := (acc ++ [((((h.step call).2.value :: (h.step call).2.out).length : Nat) : Int)]).map V.int) hu4 uout4
  have t5 : Tabs Tb (upd H4 u (.lst ((acc ++ [((((h.step call).2.value :: (h.step call).2.out).length : Nat) : Int)]).map V.int))) := Tabs.write t4 hu4 notTbl_lst lst_code
  have ext5 : ExtN H (upd H4 u (.lst ((acc ++ [((((h.step call).2.value :: (h.step call).2.out).length : Nat) : Int)]).map V.int))) := ExtN.write hext4 nuH
  generalize upd H4 u (.lst ((acc ++ [((((h.step call).2.value :: (h.step call).2.out).length : Nat) : Int)]).map V.int)) = H5 at hu5 hp5 hh5 t5 ext5
  -- told.extend(..)
  refine ⟨_, rfl, .inl ⟨rfl, _, SqL.of hu5⟩, _, rfl, u, p, _, _, rfl, rfl, hu5, hp5, ?_, ?_⟩
  · rw [List.length_map, List.length_map, List.length_append, sizeLine_eq]
    show acc.length + 1 + _ ≤ _
    omega
  -- place = behind
  rw [← List.map_append]
  refine ⟨_, rfl, ns.length - (i + 1 + n), by omega, some (V.int zc), some (V.int ((i : Int) + 1 + (n : Int))), some (V.ref p), i + 1 + n, f', cs', (acc ++ [((((h.step call).2.value :: (h.step call).2.out).length : Nat) : Int)]) ++ ((h.step call).2.value :: (h.step call).2.out), W4, s4, (h.step call).1, ?_, rfl, by omega, hcs', hall.2, by omega, ?_, ⟨hh5.other hu5 uout4, f4, Tabs.write t5 hu5 notTbl_lst lst_code⟩, hft4, ExtN.write ext5 nuH, nuH, uout4, upd_same⟩
  · show [some (V.ref l), some (V.ref a), some (V.ref u), some (V.int ((i : Int) + 1 + (n : Int))), some (V.int zc), some (V.int ((i : Int) + 1 + (n : Int))), some (V.ref p)] = _
    rw [ebh]
  · rw [← hacc]
    simp [List.append_assoc]
end
end Hb
end

section
set_option Elab.async false
set_option linter.all false
set_option maxRecDepth 100000
set_option maxHeartbeats 2500000
namespace Hb
open L2 PySem PySem.Spec PyProof.Rows LamX
open Sq31 (Deed House)
/-! ### what the top has written, def by def -/
structure GD (K : PySem.W.Frag) (x : Str) (st : Stmt) : Prop where
  ex : ∃ (f : Addr) (fd : FuncData), PySem.W.nsIn K mainGlobals x = some (some (.ref f)) ∧ L2.Fun K x x st f fd
structure MD (K : PySem.W.Frag) (C : Addr) (m qual : Str) (st : Stmt) : Prop where
  ex : ∃ (f : Addr) (fd : FuncData), L2.Meth K C m f ∧ L2.Fun K m qual st f fd
/-- of the def that makes lambdas: its code object too -/
structure LD (K : PySem.W.Frag) (x : Str) (st : Stmt) (cA : Addr) : Prop where
  ex : ∃ (f : Addr) (oc : Value) (od an : Option Addr) (osl : Array (Option Value)) (kV doc pm ct : Value), PySem.W.nsIn K mainGlobals x = some (some (.ref f)) ∧ PySem.W.keepIn K (.ref f) = true ∧
    K.lookup f = some ⟨oc, od, .func (PySem.W.fnOf x x (defArgs st) (defBody st) (defScope st) .none kV doc pm an (.ref cA) ct), osl⟩ ∧ PySem.W.codeIn K (.ref cA) x = true
section
variable {P : Program} {w : World} {K : PySem.W.Frag} {mg : Str → Option Value} {base h : Heap} {x m qual : Str} {st : Stmt} {ps : List Str} {sp : Sp} {k : Nat} {C f cA : Addr} {oc : Value} {od an : Option Addr} {osl : Array (Option Value)} {kV doc pm cdv ct : Value}
theorem gdef (a : PySem.W.nsIn K mainGlobals x = some (some (.ref f))) (l : K.lookup f = some ⟨oc, od, .func (PySem.W.fnOf x x (defArgs st) (defBody st) (defScope st) .none kV doc pm an cdv ct), osl⟩) (e : PySem.W.codeIn K cdv x = true) (q : PySem.W.keepIn K (.ref f) = true) : GD K x st := ⟨f, _, a, fun_mk l e q⟩
theorem mdef (a : PySem.W.findIn K (.ref C) m = some (some (.ref f))) (i : PySem.W.isFn K (.ref f) = true) (l : K.lookup f = some ⟨oc, od, .func (PySem.W.fnOf m qual (defArgs st) (defBody st) (defScope st) .none kV doc pm an cdv ct), osl⟩) (e : PySem.W.codeIn K cdv qual = true) (q : PySem.W.keepIn K (.ref f) = true) : MD K C m qual st :=
  ⟨f, _, ⟨a, i, q⟩, fun_mk l e q⟩
theorem ldef (a : PySem.W.nsIn K mainGlobals x = some (some (.ref f))) (l : K.lookup f = some ⟨oc, od, .func (PySem.W.fnOf x x (defArgs st) (defBody st) (defScope st) .none kV doc pm an (.ref cA) ct), osl⟩) (e : PySem.W.codeIn K (.ref cA) x = true) (q : PySem.W.keepIn K (.ref f) = true) : LD K x st cA := ⟨f, oc, od, an, osl, kV, doc, pm, ct, a, q, l, e⟩
abbrev BindsBy (x qual : Str) (st : Stmt) (ps : List Str) : Prop := ∀ (kV doc pm : Value) (an : Option Addr) (cdv ct : Value) (us : List Value), us.length = ps.length → bindArgs (PySem.W.fnOf x qual (defArgs st) (defBody st) (defScope st) .none kV doc pm an cdv ct) ⟨us, []⟩ = pure (ps.zip us)
theorem GD.cal (g : GD K x st) (X : K.In h) (G : h.Ns mainGlobals mg) (bi : BindsBy x x st ps) (ok : ∀ f fd, L2.Fun K x x st f fd → FnOk P w K mg base L2.CX0 k f fd ps sp) : C8.Cal P w K mg base k x sp [] := by
  obtain ⟨f, fd, a, F⟩ := g.ex
  exact ⟨f, fd, ps, [], ok f fd F, PySem.W.mg_of X G a, F.kp, F.binds bi, .nil⟩
theorem MD.met (g : MD K C m qual st) (cl : Cls K C) (bi : BindsBy m qual st ps) (ok : ∀ f fd, L2.Fun K m qual st f fd → FnOk P w K mg base L2.CX0 k f fd ps sp) : C8.Met P w K mg base k C m sp [] := by
  obtain ⟨f, fd, a, F⟩ := g.ex
  exact ⟨f, fd, ps, [], cl, a, ok f fd F, F.binds bi, .nil⟩
theorem MD.mak (g : MD K C "__init__" qual st) (hm : mg x = some (.ref C)) (mk : PySem.W.makesIn K C = true) (kc : PySem.W.keepIn K (.ref C) = true) (bi : BindsBy "__init__" qual st ps) (ok : ∀ f fd, L2.Fun K "__init__" qual st f fd → FnOk P w K mg base L2.CX0 k f fd ps sp) : C8.Mak P w K mg base k x C sp [] := by
  obtain ⟨f, fd, a, F⟩ := g.ex
  exact ⟨f, fd, ps, [], ⟨mk, a.at_, a.fn, kc⟩, ok f fd F, hm, F.binds bi, .nil⟩
end
abbrev gI (K : PySem.W.Frag) (x : Str) (i : Int) : Prop := ∃ t, PySem.W.nsIn K mainGlobals x = some (some (.int i t))
abbrev gN (K : PySem.W.Frag) (x : Str) : Prop := PySem.W.nsIn K mainGlobals x = some none
abbrev gC (K : PySem.W.Frag) (x : Str) (C : Addr) : Prop := PySem.W.nsIn K mainGlobals x = some (some (.ref C)) ∧ PySem.W.makesIn K C = true ∧ PySem.W.keepIn K (.ref C) = true
theorem gi {K : PySem.W.Frag} {x : Str} {i : Int} {t : Tok} (e : PySem.W.nsIn K mainGlobals x = some (some (.int i t))) : gI K x i := ⟨t, e⟩
theorem gc {K : PySem.W.Frag} {x : Str} {C : Addr} (a : PySem.W.nsIn K mainGlobals x = some (some (.ref C))) (b : PySem.W.makesIn K C = true) (d : PySem.W.keepIn K (.ref C) = true) : gC K x C := ⟨a, b, d⟩
/-- the classes -/
structure FCls (K : PySem.W.Frag) (c : Cs) : Prop where
  gM : gC K "Move" c.M
  gT : gC K "Turn" c.T
  gH : gC K "House" c.H
  clM : Cls K c.M
  clT : Cls K c.T
  clH : Cls K c.H
  nMn : NoAttr K c.M "number"
  nMs : NoAttr K c.M "stamp"
  nMt : NoAttr K c.M "thing"
  nMu : NoAttr K c.M "under"
  nMl : NoAttr K c.M "label"
  nTn : NoAttr K c.T "number"
  nTs : NoAttr K c.T "stamp"
  nTt : NoAttr K c.T "target"
  nTh : NoAttr K c.T "to_hold"
  nHd : NoAttr K c.H "done"
  nHk : NoAttr K c.H "known"
  caM : PySem.W.findIn K (.ref c.M) "__class__" = some (some (.builtin "object.__class__"))
  caT : PySem.W.findIn K (.ref c.T) "__class__" = some (some (.builtin "object.__class__"))
  csp : PySem.W.specialIn K (.builtin "object.__class__") "__get__" = some (some (.builtin "getset_descriptor.__get__"))
  ctk : PySem.W.takesIn K (.builtin "object.__class__") = some true
  cmM : PySem.W.mroIn K c.M (.type "object") = some true
  cmT : PySem.W.mroIn K c.T (.type "object") = some true
  iMM : PySem.W.kitOne K (.ref c.M) (.ref c.M) = some true
  iTM : PySem.W.kitOne K (.ref c.T) (.ref c.M) = some false
  iMT : PySem.W.kitOne K (.ref c.M) (.ref c.T) = some false
  iTT : PySem.W.kitOne K (.ref c.T) (.ref c.T) = some true
/-- names of the module -/
structure FNam (K : PySem.W.Frag) : Prop where
  sorted : gN K "sorted"
  max : gN K "max"
  isi : gN K "isinstance"
  len : gN K "len"
  range : gN K "range"
  list : gN K "list"
  root : gI K "ROOT" 0
  bin : gI K "BIN" 1
  last : gI K "LAST_THING" 63
  put : gI K "PUT" 1
  notThere : gI K "NOT_THERE" 2
  within : gI K "WITHIN_ITSELF" 3
  most : gI K "MOST_DEEDS" 120
  mostDesks : gI K "MOST_DESKS" 8
  mostLabel : gI K "MOST_LABEL" 1000000000
  notGranted : gI K "NOT_GRANTED" (-1)
  notFound : gI K "NOT_FOUND" (-2)
  noMove : gI K "NO_MOVE" (-3)
  alreadySo : gI K "ALREADY_SO" (-4)
  tooMany : gI K "TOO_MANY_DEEDS" (-5)
  notHolding : gI K "NOT_HOLDING" 0
structure FSiz (K : PySem.W.Frag) : Prop where
  ex : ∃ (d : Addr) (es : Array DictEntry) (n : Nat), PySem.W.nsIn K mainGlobals "SIZES" = some (some (.ref d)) ∧ K.lookup d = some ⟨.type "dict", none, .dict es n, #[]⟩ ∧ chk es = true
theorem fsiz {K : PySem.W.Frag} {d : Addr} {es : Array DictEntry} {n : Nat} (a : PySem.W.nsIn K mainGlobals "SIZES" = some (some (.ref d))) (l : K.lookup d = some ⟨.type "dict", none, .dict es n, #[]⟩) (e : chk es = true) : FSiz K := ⟨d, es, n, a, l, e⟩
/-- the defs -/
structure FDef (K : PySem.W.Frag) (cA : Addr) : Prop where
  byStamps : LD K "by_stamps" s_by_stamps cA
  stampFor : GD K "stamp_for" s_stamp_for
  isMoveOf : GD K "is_move_of" s_is_move_of
  lastTurns : GD K "last_turns" s_last_turns
  holds : GD K "holds" s_holds
  movesBy : GD K "moves_by_stamps" s_moves_by_stamps
  movesHold : GD K "moves_that_hold" s_moves_that_hold
  toUndo : GD K "move_to_undo" s_move_to_undo
  toRedo : GD K "move_to_redo" s_move_to_redo
  isThere : GD K "is_there" s_is_there
  isAbove : GD K "is_above" s_is_above
  doMove : GD K "do_move" s_do_move
  treeOf : GD K "tree_of" s_tree_of
  elsewhere : GD K "elsewhere" s_elsewhere
  rightUnder : GD K "right_under" s_right_under
  rows : GD K "rows_within_root" s_rows_within_root
  begin_ : GD K "begin" s_begin
  granted : GD K "is_granted" s_is_granted
  move : GD K "move" s_move
  turn : GD K "turn" s_turn
  refusal : GD K "refusal_to_turn" s_refusal
  named : GD K "turn_named" s_named
  undo : GD K "undo" s_undo
  redo : GD K "redo" s_redo
  would : GD K "would" s_would
  tell : GD K "tell" s_tell
  meet : GD K "meet" s_meet
  tree : GD K "list_tree" s_list_tree
  moves : GD K "list_moves" s_list_moves
  compare : GD K "compare" s_compare
  answerTo : GD K "answer_to" s_answer_to
  answers : GD K "answers" s_answers
structure FMet (K : PySem.W.Frag) (c : Cs) : Prop where
  iM : MD K c.M "__init__" "Move.__init__" s_move_init
  iT : MD K c.T "__init__" "Turn.__init__" s_turn_init
  iH : MD K c.H "__init__" "House.__init__" (hs 0)
  start : MD K c.H "start" "House.start" (hs 1)
  hasDesk : MD K c.H "has_desk" "House.has_desk" (hs 2)
  isFull : MD K c.H "is_full" "House.is_full" (hs 3)
  hasDeed : MD K c.H "has_deed" "House.has_deed" (hs 4)
  hasOwn : MD K c.H "has_own_move" "House.has_own_move" (hs 5)
  known : MD K c.H "known_deeds" "House.known_deeds" (hs 6)
  treeAt : MD K c.H "tree_at" "House.tree_at" (hs 7)
  treeWo : MD K c.H "tree_without" "House.tree_without" (hs 8)
  outcomes : MD K c.H "outcomes_at" "House.outcomes_at" (hs 9)
  alike : MD K c.H "knows_alike" "House.knows_alike" (hs 10)
  learn : MD K c.H "learn" "House.learn" (hs 11)
  share : MD K c.H "share" "House.share" (hs 12)
  addMove : MD K c.H "add_move" "House.add_move" (hs 13)
  addTurn : MD K c.H "add_turn" "House.add_turn" (hs 14)
  keep : MD K c.H "keep" "House.keep" (hs 15)
section
variable {K : PySem.W.Frag} {A B E : Addr}
theorem fcls (g1 : PySem.W.nsIn K mainGlobals "Move" = some (some (.ref A))) (g2 : PySem.W.makesIn K A = true) (g3 : PySem.W.keepIn K (.ref A) = true) (g4 : PySem.W.nsIn K mainGlobals "Turn" = some (some (.ref B))) (g5 : PySem.W.makesIn K B = true) (g6 : PySem.W.keepIn K (.ref B) = true)
    (g7 : PySem.W.nsIn K mainGlobals "House" = some (some (.ref E))) (g8 : PySem.W.makesIn K E = true) (g9 : PySem.W.keepIn K (.ref E) = true)
    (a1 : PySem.W.plainGet K A Str.empty = true) (a2 : PySem.W.hasDictIn K A = true) (a3 : PySem.W.plainOver K A = true) (a4 : PySem.W.findIn K (.ref A) "__setattr__" = some (some (.builtin "object.__setattr__")))
    (b1 : PySem.W.plainGet K B Str.empty = true) (b2 : PySem.W.hasDictIn K B = true) (b3 : PySem.W.plainOver K B = true) (b4 : PySem.W.findIn K (.ref B) "__setattr__" = some (some (.builtin "object.__setattr__")))
    (e1 : PySem.W.plainGet K E Str.empty = true) (e2 : PySem.W.hasDictIn K E = true) (e3 : PySem.W.plainOver K E = true) (e4 : PySem.W.findIn K (.ref E) "__setattr__" = some (some (.builtin "object.__setattr__")))
    (n1 : PySem.W.findIn K (.ref A) "number" = some none) (n2 : PySem.W.findIn K (.ref A) "stamp" = some none) (n3 : PySem.W.findIn K (.ref A) "thing" = some none) (n4 : PySem.W.findIn K (.ref A) "under" = some none) (n5 : PySem.W.findIn K (.ref A) "label" = some none)
    (n6 : PySem.W.findIn K (.ref B) "number" = some none) (n7 : PySem.W.findIn K (.ref B) "stamp" = some none) (n8 : PySem.W.findIn K (.ref B) "target" = some none) (n9 : PySem.W.findIn K (.ref B) "to_hold" = some none)
    (m1 : PySem.W.findIn K (.ref E) "done" = some none) (m2 : PySem.W.findIn K (.ref E) "known" = some none)
    (k1 : PySem.W.findIn K (.ref A) "__class__" = some (some (.builtin "object.__class__"))) (k2 : PySem.W.findIn K (.ref B) "__class__" = some (some (.builtin "object.__class__")))
    (k3 : PySem.W.specialIn K (.builtin "object.__class__") "__get__" = some (some (.builtin "getset_descriptor.__get__"))) (k4 : PySem.W.takesIn K (.builtin "object.__class__") = some true)
    (k5 : PySem.W.mroIn K A (.type "object") = some true) (k6 : PySem.W.mroIn K B (.type "object") = some true)
    (k7 : PySem.W.kitOne K (.ref A) (.ref A) = some true) (k8 : PySem.W.kitOne K (.ref B) (.ref A) = some false) (k9 : PySem.W.kitOne K (.ref A) (.ref B) = some false) (j1 : PySem.W.kitOne K (.ref B) (.ref B) = some true) : FCls K ⟨A, B, E⟩ :=
  ⟨⟨g1, g2, g3⟩, ⟨g4, g5, g6⟩, ⟨g7, g8, g9⟩, ⟨a1, a2, a3, a4⟩, ⟨b1, b2, b3, b4⟩, ⟨e1, e2, e3, e4⟩, n1, n2, n3, n4, n5, n6, n7, n8, n9, m1, m2, k1, k2, k3, k4, k5, k6, k7, k8, k9, j1⟩
theorem fmet (y1 : MD K A "__init__" "Move.__init__" s_move_init) (y2 : MD K B "__init__" "Turn.__init__" s_turn_init) (y3 : MD K E "__init__" "House.__init__" (hs 0)) (y4 : MD K E "start" "House.start" (hs 1)) (y5 : MD K E "has_desk" "House.has_desk" (hs 2)) (y6 : MD K E "is_full" "House.is_full" (hs 3))
    (y7 : MD K E "has_deed" "House.has_deed" (hs 4)) (y8 : MD K E "has_own_move" "House.has_own_move" (hs 5)) (y9 : MD K E "known_deeds" "House.known_deeds" (hs 6)) (z1 : MD K E "tree_at" "House.tree_at" (hs 7)) (z2 : MD K E "tree_without" "House.tree_without" (hs 8)) (z3 : MD K E "outcomes_at" "House.outcomes_at" (hs 9))
    (z4 : MD K E "knows_alike" "House.knows_alike" (hs 10)) (z5 : MD K E "learn" "House.learn" (hs 11)) (z6 : MD K E "share" "House.share" (hs 12)) (z7 : MD K E "add_move" "House.add_move" (hs 13)) (z8 : MD K E "add_turn" "House.add_turn" (hs 14)) (z9 : MD K E "keep" "House.keep" (hs 15)) : FMet K ⟨A, B, E⟩ :=
  ⟨y1, y2, y3, y4, y5, y6, y7, y8, y9, z1, z2, z3, z4, z5, z6, z7, z8, z9⟩
end
theorem all_mk {P : Program} {w : World} {K : PySem.W.Frag} {h : Heap} {mg : Str → Option Value} {fa : Addr} {c : Cs} {cA PA : Addr} (X : K.In h) (G : h.Ns mainGlobals mg) (hfa : mg "answers" = some (.ref fa)) (C : FCls K c) (N : FNam K) (Z : FSiz K) (D : FDef K cA) (M : FMet K c) :
    ∃ fd : FuncData, (∀ (s : Shared) (us : List Value), us.length = (["calls"] : List Str).length → BindsTo s fd ⟨us, []⟩ ((["calls"] : List Str).zip us)) ∧ ∀ base : Heap, K.In base → base.Ns mainGlobals mg → (∀ p ∈ [(cA, PA)], TabB base mg p.1 p.2) → FnOk P w K mg base L2.CX0 8 fa fd ["calls"] (spAnswers K (TT1 PA)) := by
  have gi' : ∀ {x : Str} {i : Int}, gI K x i → ∃ t, mg x = some (.int i t) := fun ⟨t, e⟩ => ⟨t, PySem.W.mg_of X G e⟩
  have gn' : ∀ {x : Str}, gN K x → mg x = none := fun e => PySem.W.mg_none_of X G e
  have T : Txt K mg c := ⟨C.clM, C.clT, C.nMn, C.nMs, C.nMt, C.nMu, C.nMl, C.nTn, C.nTs, C.nTt, C.nTh, PySem.W.mg_of X G C.gM.1, PySem.W.mg_of X G C.gT.1, C.caM, C.caT, C.csp, C.ctk, C.cmM, C.cmT, C.iMM, C.iTM, C.iMT, C.iTT, gn' N.sorted, gn' N.max, gn' N.isi, gn' N.len, gn' N.range⟩
  have TC : TxtC mg := ⟨gi' N.root, gi' N.bin, gi' N.last, gi' N.put, gi' N.notThere, gi' N.within⟩
  have TH : TxtH K mg c := ⟨C.clH, C.nHd, C.nHk, gi' N.most, gn' N.list⟩
  have TD : TxtD mg := ⟨gi' N.mostDesks, gi' N.mostLabel, gi' N.notGranted, gi' N.notFound, gi' N.noMove, gi' N.alreadySo, gi' N.tooMany, gi' N.notHolding⟩
  have TS : TxtS K mg := by
    obtain ⟨d, es, n, a, l, e⟩ := Z.ex
    exact TxtS.of (PySem.W.mg_of X G a) l e
  obtain ⟨f, fd, a, F⟩ := D.answers.ex
  have e := hfa.symm.trans (PySem.W.mg_of X G a)
  cases e
  refine ⟨fd, fun s us hu => ?_, fun base _ _ tb => ?_⟩
  · obtain ⟨oc, od, kV, doc, pm, an, cdv, ct, osl, rfl, lk, hcd⟩ := F.ex
    exact match us, hu with | [_], _ => .of_eq rfl
  have TB : TabB base mg cA PA := tb (cA, PA) (List.mem_singleton.mpr rfl)
  -- deeds
  have byS : C8.Cal P w K mg base 1 "by_stamps" (spByStamps K c (TT1 PA)) [] := by
    obtain ⟨f, oc, od, an, osl, kV, doc, pm, ct, a, q, l, e⟩ := D.byStamps.ex
    exact ⟨f, _, ["deeds"], [], ok_by_stamps (k := 0) l e TB T, PySem.W.mg_of X G a, q, (fun_mk l e q).binds (fun _ _ _ _ _ _ us hl => match us, hl with | [_], _ => rfl), .nil⟩
  have stS : C8.Cal P w K mg base 1 "stamp_for" (spStampFor K c) [] := D.stampFor.cal X G (fun _ _ _ _ _ _ us hl => match us, hl with | [_, _], _ => rfl) fun f fd F => ok_stamp_for (k := 0) F T
  have isM : C8.Cal P w K mg base 1 "is_move_of" (spIsMoveOf c) [] := D.isMoveOf.cal X G (fun _ _ _ _ _ _ us hl => match us, hl with | [_, _], _ => rfl) fun f fd F => ok_is_move_of (k := 0) F T
  have lastT : C8.Cal P w K mg base 2 "last_turns" (spLastTurns K c (TT1 PA)) [] := D.lastTurns.cal X G (fun _ _ _ _ _ _ us hl => match us, hl with | [_], _ => rfl) fun f fd F => ok_last_turns F T byS
  have hol : C8.Cal P w K mg base 3 "holds" (spHolds K c (TT1 PA)) [] := D.holds.cal X G (fun _ _ _ _ _ _ us hl => match us, hl with | [_, _], _ => rfl) fun f fd F => ok_holds F lastT
  have mvB : C8.Cal P w K mg base 2 "moves_by_stamps" (spMovesBy K c (TT1 PA)) [] := D.movesBy.cal X G (fun _ _ _ _ _ _ us hl => match us, hl with | [_], _ => rfl) fun f fd F => ok_moves_by_stamps F T byS
  have mvH : C8.Cal P w K mg base 3 "moves_that_hold" (spMoves K c (TT1 PA)) [] := D.movesHold.cal X G (fun _ _ _ _ _ _ us hl => match us, hl with | [_], _ => rfl) fun f fd F => ok_moves_that_hold F T mvB lastT
  have toU : C8.Cal P w K mg base 4 "move_to_undo" (spUndo K c (TT1 PA)) [] := D.toUndo.cal X G (fun _ _ _ _ _ _ us hl => match us, hl with | [_, _], _ => rfl) fun f fd F => ok_move_to_undo F T mvH isM (by decide)
  have toR : C8.Cal P w K mg base 3 "move_to_redo" (spRedo K c (TT1 PA)) [] := D.toRedo.cal X G (fun _ _ _ _ _ _ us hl => match us, hl with | [_, _], _ => rfl) fun f fd F => ok_move_to_redo F T byS lastT isM
  -- trees
  have thr : C8.Cal P w K mg base 1 "is_there" spThere [] := D.isThere.cal X G (fun _ _ _ _ _ _ us hl => match us, hl with | [_, _], _ => rfl) fun f fd F => ok_is_there (k := 0) F TC
  have abv : C8.Cal P w K mg base 1 "is_above" spAbove [] := D.isAbove.cal X G (fun _ _ _ _ _ _ us hl => match us, hl with | [_, _, _], _ => rfl) fun f fd F => ok_is_above (k := 0) F
  have doM : C8.Cal P w K mg base 2 "do_move" (spDoMove c) [] := D.doMove.cal X G (fun _ _ _ _ _ _ us hl => match us, hl with | [_, _], _ => rfl) fun f fd F => ok_do_move (k := 0) F T TC thr abv
  have trO : C8.Cal P w K mg base 3 "tree_of" (spTreeOf K c) [] := D.treeOf.cal X G (fun _ _ _ _ _ _ us hl => match us, hl with | [_], _ => rfl) fun f fd F => ok_tree_of F doM
  have els : C8.Cal P w K mg base 1 "elsewhere" (spElse K) [] := D.elsewhere.cal X G (fun _ _ _ _ _ _ us hl => match us, hl with | [_, _], _ => rfl) fun f fd F => ok_elsewhere (k := 0) F T TC
  have rgt : C8.Cal P w K mg base 1 "right_under" spRight [] := D.rightUnder.cal X G (fun _ _ _ _ _ _ us hl => match us, hl with | [_, _], _ => rfl) fun f fd F => ok_right_under (k := 0) F T
  have rws : C8.Cal P w K mg base 2 "rows_within_root" spRows [] := D.rows.cal X G (fun _ _ _ _ _ _ us hl => match us, hl with | [_], _ => rfl) fun f fd F => ok_rows F T TC rgt
  -- the house
  have mkM : C8.Mak P w K mg base 1 "Move" c.M (spMoveInit c) [] := M.iM.mak (PySem.W.mg_of X G C.gM.1) C.gM.2.1 C.gM.2.2 (fun _ _ _ _ _ _ us hl => match us, hl with | [_, _, _, _, _, _], _ => rfl) fun f fd F => ok_move_init (k := 0) F T
  have mkT : C8.Mak P w K mg base 1 "Turn" c.T (spTurnInit c) [] := M.iT.mak (PySem.W.mg_of X G C.gT.1) C.gT.2.1 C.gT.2.2 (fun _ _ _ _ _ _ us hl => match us, hl with | [_, _, _, _, _], _ => rfl) fun f fd F => ok_turn_init (k := 0) F T
  have mkH : C8.Mak P w K mg base 1 "House" c.H (spHouse c) [] := M.iH.mak (PySem.W.mg_of X G C.gH.1) C.gH.2.1 C.gH.2.2 (fun _ _ _ _ _ _ us hl => match us, hl with | [_], _ => rfl) fun f fd F => ok_house (k := 0) F TH
  have mSt : C8.Met P w K mg base 1 c.H "start" (spStart c (TT1 PA)) [] := M.start.met C.clH (fun _ _ _ _ _ _ us hl => match us, hl with | [_, _], _ => rfl) fun f fd F => ok_start (k := 0) F T TH
  have mHD : C8.Met P w K mg base 1 c.H "has_desk" (spHasDesk c) [] := M.hasDesk.met C.clH (fun _ _ _ _ _ _ us hl => match us, hl with | [_, _], _ => rfl) fun f fd F => ok_has_desk (k := 0) F T TH
  have mIF : C8.Met P w K mg base 1 c.H "is_full" (spIsFull c) [] := M.isFull.met C.clH (fun _ _ _ _ _ _ us hl => match us, hl with | [_], _ => rfl) fun f fd F => ok_is_full (k := 0) F T TH
  have mDe : C8.Met P w K mg base 1 c.H "has_deed" (spHasDeed c) [] := M.hasDeed.met C.clH (fun _ _ _ _ _ _ us hl => match us, hl with | [_, _], _ => rfl) fun f fd F => ok_has_deed (k := 0) F T TH
  have mOw : C8.Met P w K mg base 2 c.H "has_own_move" (spHasOwn c) [] := M.hasOwn.met C.clH (fun _ _ _ _ _ _ us hl => match us, hl with | [_, _, _], _ => rfl) fun f fd F => ok_has_own F TH mDe isM
  have mKn : C8.Met P w K mg base 1 c.H "known_deeds" (spKnown K c) [] := M.known.met C.clH (fun _ _ _ _ _ _ us hl => match us, hl with | [_, _], _ => rfl) fun f fd F => ok_known (k := 0) F TH
  have mTA : C8.Met P w K mg base 4 c.H "tree_at" (spTreeAt c (TT1 PA)) [] := M.treeAt.met C.clH (fun _ _ _ _ _ _ us hl => match us, hl with | [_, _], _ => rfl) fun f fd F => ok_tree_at F mKn mvH trO
  have mTW : C8.Met P w K mg base 4 c.H "tree_without" (spTreeWo c (TT1 PA)) [] := M.treeWo.met C.clH (fun _ _ _ _ _ _ us hl => match us, hl with | [_, _, _], _ => rfl) fun f fd F => ok_tree_wo F T mKn mvH trO
  have mOu : C8.Met P w K mg base 4 c.H "outcomes_at" (spOutcomes c (TT1 PA)) [] := M.outcomes.met C.clH (fun _ _ _ _ _ _ us hl => match us, hl with | [_, _], _ => rfl) fun f fd F => ok_outcomes F T mKn mvH doM
  have mAl : C8.Met P w K mg base 1 c.H "knows_alike" (spAlike c) [] := M.alike.met C.clH (fun _ _ _ _ _ _ us hl => match us, hl with | [_, _, _], _ => rfl) fun f fd F => ok_alike (k := 0) F TH
  have mLe : C8.Met P w K mg base 1 c.H "learn" (spLearn c (TT1 PA)) [] := M.learn.met C.clH (fun _ _ _ _ _ _ us hl => match us, hl with | [_, _, _], _ => rfl) fun f fd F => ok_learn (k := 0) F T TH
  have mSh : C8.Met P w K mg base 2 c.H "share" (spShare c (TT1 PA)) [] := M.share.met C.clH (fun _ _ _ _ _ _ us hl => match us, hl with | [_, _, _], _ => rfl) fun f fd F => ok_share F TH mLe
  have mKe : C8.Met P w K mg base 1 c.H "keep" (spKeep c (TT1 PA)) [] := M.keep.met C.clH (fun _ _ _ _ _ _ us hl => match us, hl with | [_, _, _], _ => rfl) fun f fd F => ok_keep (k := 0) F T TH
  have mAM : C8.Met P w K mg base 3 c.H "add_move" (spAddMove c (TT1 PA)) [] := M.addMove.met C.clH (fun _ _ _ _ _ _ us hl => match us, hl with | [_, _, _, _, _], _ => rfl) fun f fd F => ok_add_move F T TH mKn mKe stS mkM
  have mAT : C8.Met P w K mg base 3 c.H "add_turn" (spAddTurn c (TT1 PA)) [] := M.addTurn.met C.clH (fun _ _ _ _ _ _ us hl => match us, hl with | [_, _, _, _], _ => rfl) fun f fd F => ok_add_turn F T TH mKn mKe stS mkT
  -- the calls
  have grt : C8.Cal P w K mg base 1 "is_granted" spGranted [] := D.granted.cal X G (fun _ _ _ _ _ _ us hl => match us, hl with | [_, _, _], _ => rfl) fun f fd F => ok_is_granted (k := 0) F TC TD
  have trn : C8.Cal P w K mg base 5 "turn" (spTurn c (TT1 PA)) [] := D.turn.cal X G (fun _ _ _ _ _ _ us hl => match us, hl with | [_, _, _, _], _ => rfl) fun f fd F => ok_turn F TD mIF mTA mAT els
  have rfs : C8.Cal P w K mg base 4 "refusal_to_turn" (spRefusal c (TT1 PA)) [] := D.refusal.cal X G (fun _ _ _ _ _ _ us hl => match us, hl with | [_, _, _, _], _ => rfl) fun f fd F => ok_refusal F TD mHD mOw mKn hol
  have calls : Calls P w K mg base c (TT1 PA) :=
    ⟨D.begin_.cal X G (fun _ _ _ _ _ _ us hl => match us, hl with | [_, _], _ => rfl) fun f fd F => ok_begin F TD mSt,
     D.move.cal X G (fun _ _ _ _ _ _ us hl => match us, hl with | [_, _, _, _, _], _ => rfl) fun f fd F => ok_move F T TD mHD grt mIF mTA mAM doM,
     D.named.cal X G (fun _ _ _ _ _ _ us hl => match us, hl with | [_, _, _, _], _ => rfl) fun f fd F => ok_named F rfs trn,
     D.undo.cal X G (fun _ _ _ _ _ _ us hl => match us, hl with | [_, _], _ => rfl) fun f fd F => ok_undo F TD mHD mKn toU trn,
     D.redo.cal X G (fun _ _ _ _ _ _ us hl => match us, hl with | [_, _], _ => rfl) fun f fd F => ok_redo F TD mHD mKn toR trn,
     D.would.cal X G (fun _ _ _ _ _ _ us hl => match us, hl with | [_, _, _], _ => rfl) fun f fd F => ok_would F T rfs mTA mTW els,
     D.tell.cal X G (fun _ _ _ _ _ _ us hl => match us, hl with | [_, _, _], _ => rfl) fun f fd F => ok_tell F T TD mHD mDe mLe mKn,
     D.meet.cal X G (fun _ _ _ _ _ _ us hl => match us, hl with | [_, _, _], _ => rfl) fun f fd F => ok_meet F T TD mHD mSh mKn,
     D.tree.cal X G (fun _ _ _ _ _ _ us hl => match us, hl with | [_, _], _ => rfl) fun f fd F => ok_list_tree F T TD mHD mTA rws,
     D.moves.cal X G (fun _ _ _ _ _ _ us hl => match us, hl with | [_, _], _ => rfl) fun f fd F => ok_list_moves F T TD mHD mOu mKn mvB,
     D.compare.cal X G (fun _ _ _ _ _ _ us hl => match us, hl with | [_, _, _], _ => rfl) fun f fd F => ok_compare F TD mHD mAl mTA⟩
  have ato : C8.Cal P w K mg base 7 "answer_to" (spAnswerTo c (TT1 PA)) [] := D.answerTo.cal X G (fun _ _ _ _ _ _ us hl => match us, hl with | [_, _, _], _ => rfl) fun f fd F => ok_answer_to F calls
  exact ok_answers F T TS mkH ato
end Hb
end

section
set_option Elab.async false
set_option linter.all false
open PyProof.Rows PySem PySem.W
set_option maxRecDepth 120000 in
set_option maxHeartbeats 9000000 in
theorem PySem.Challenge.cw_handsback_s01_answers_holds : PySem.Challenge.rw_handsback_s01_answers.Holds := by
  w_on; k_headS; (case hw => exact ⟨[.list [.int 10, .int 0]], by decide +kernel, by decide +kernel⟩)
  k_fillS
  refine Hb.walk_specT (r := PySem.Challenge.rw_handsback_s01_answers) (j := 8) (CX := L2.CX0) (ps := ["calls"]) (cs := [(?ca, ?pa)]) (sp := fun K => Hb.spAnswers K (Hb.TT1 ?pa)) (by decide +kernel) rfl ⟨rfl, by decide, by decide⟩ (fun w h Y => PySem.W.kIn_of Y) ?hx ?hn ?F ?S (fun _ _ _ _ z => z)
  case hx =>
    intro y hy
    obtain rfl := List.mem_singleton.mp hy
    refine ⟨"by_stamps", _, rfl, fun w => ?_⟩
    first | rfl | k_is
  case hn =>
    intro w y hy
    obtain rfl := List.mem_singleton.mp hy
    first | rfl | k_is
  case F =>
    intro w mg fa h Y KX G hmg
    refine' Hb.all_mk KX G hmg (Hb.fcls ?wcg1 ?wcg2 ?wcg3 ?wcg4 ?wcg5 ?wcg6 ?wcg7 ?wcg8 ?wcg9 ?wca1 ?wca2 ?wca3 ?wca4 ?wcb1 ?wcb2 ?wcb3 ?wcb4 ?wce1 ?wce2 ?wce3 ?wce4 ?wcn1 ?wcn2 ?wcn3 ?wcn4 ?wcn5 ?wcn6 ?wcn7 ?wcn8 ?wcn9 ?wcm1 ?wcm2 ?wck1 ?wck2 ?wck3 ?wck4 ?wck5 ?wck6 ?wck7 ?wck8 ?wck9 ?wcj1) ?wN ?wZ ?wD (Hb.fmet ?wmy1 ?wmy2 ?wmy3 ?wmy4 ?wmy5 ?wmy6 ?wmy7 ?wmy8 ?wmy9 ?wmz1 ?wmz2 ?wmz3 ?wmz4 ?wmz5 ?wmz6 ?wmz7 ?wmz8 ?wmz9)
    (case wcg1 => k_is); (case wcg4 => k_is); (case wcg7 => k_is)
    case wN =>
      apply Hb.FNam.mk
      iterate 6 (unfold Hb.gN; k_is)
      all_goals (apply Hb.gi; k_is)
    case wZ =>
      apply Hb.fsiz
      k_is
      k_is
      decide +kernel
    case wD =>
      apply Hb.FDef.mk
      · apply Hb.ldef
        iterate 4 k_is
      all_goals (apply Hb.gdef; k_is; k_is; k_is; k_is)
    all_goals first | k_is | rfl | (apply Hb.mdef; k_is; k_is; k_is; k_is; k_is)
  case S =>
    intro K H xs a tabs hwi hask hx
    cases hx with
    | cons h1 h2 =>
      cases h2
      cases h1 with
      | lst hs ha =>
        have e := L2.ints_dw a.1 _ ha
        subst e
        have q : ((Codec.inLen 0 1000 a.1 && a.1.all (Codec.inInt 0 18446744073709551615)) && true) = true := hwi
        rw [Bool.and_eq_true, Bool.and_eq_true, List.all_eq_true] at q
        refine ⟨_, a.1, rfl, hs, fun y hy => (Codec.inInt_iff.mp (q.1.2 y hy)).1, hask, fun p hp => ?_, fun H' p hp => .lst (L2.SqL.of hp) (L2.dw_ints _)⟩
        obtain rfl := (List.mem_singleton.mp hp)
        exact LamX.TabS.nil (tabs _ (List.mem_singleton.mpr rfl))
#print axioms PySem.Challenge.cw_handsback_s01_answers_holds
end
