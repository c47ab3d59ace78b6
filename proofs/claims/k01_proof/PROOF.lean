import PyProof.Rows.All
import Wide.All
import OpenK.AllK
import Wide.FinOn
import KE.KStateDown
import HandS.ForMost
import HandS.Exc
import HandS.ExcOwn
import HandS.ExcInit
import HandS.ExcValue
import HandS.IsInst
import HandS.ExcIs
import HandS.Wide
import HandS.WideBits
import HandS.Defaults
import HandS.Head0
import HandS.Head1
import HandS.Head2
import HandS.HeadEnd
import HandS.HeadHook1
import HandS.HeadHook2
import PySem.Challenge.RW_cardpanel_k01_errors_made
import HandS.MakeKw
set_option Elab.async false
set_option linter.all false
set_option maxRecDepth 100000
set_option maxHeartbeats 4000000
/-! Own rules over the hand layer: calls where no repr runs, repr of data, powers. -/
namespace G1
open PySem PySem.Spec PyProof.Rows L2
/-- no guard of a repr stands around -/
abbrev Gd (A : Around) : Prop := A.guards = some []
/-- a def's promise where no guard stands around -/
structure FnG (P : Program) (w : World) (K : PySem.W.Frag) (mg : Str → Option Value) (base : Heap) (k : Nat) (f : Addr) (fd : FuncData) (ps : List Str) (sp : Sp) : Prop where
  len : ∀ vs H Q E, sp vs H Q E → vs.length = ps.length
  run : ∀ (A : Around) (outer : List Env) (s : Shared) (H : Hp) (args : Args) (us : List Value) (vs : List V) (Q : VK) (E : XK), Gd A → Room k A → Env0 P w K mg base A outer s H →
    BindsTo s fd args (ps.zip us) → Vals vs us → sp vs H Q E → codeAny (model P w) A (.call (.ref f) args) (CR CX0 outer P w H s Q E) s
section
variable {P : Program} {w : World} {K : PySem.W.Frag} {mg : Str → Option Value} {base : Heap}
theorem FnG.body {k : Nat} {f : Addr} {nm ql : Str} {pr : Arguments} {bd : List Stmt} {sc : Scope} {dV kV doc pm cdv ct oc : Value} {an od : Option Addr}
    {osl : Array (Option Value)} {N ps : List Str} {sp : Sp} (lk : K.lookup f = some ⟨oc, od, .func (PySem.W.fnOf nm ql pr bd sc dV kV doc pm an cdv ct), osl⟩)
    (hcd : PySem.W.codeIn K cdv ql = true) (S : FnScope N ps sc) (len : ∀ vs H Q E, sp vs H Q E → vs.length = ps.length)
    (hb : ∀ (A : Around) (outer : List Env) (s : Shared) (H : Hp) (vs : List V) (Q : VK) (E : XK), Gd A → Room k (A.deeper (envOfC ql sc s.heap.objs.size f cdv)) → sp vs H Q E →
      ∃ t, PSs (cxOf CX0 P w K mg base N ql sc f cdv A outer s H E) bd t ∧ t { nx := fun _ H' => Q .non H', rt := Q } (start N vs) H) :
    FnG P w K mg base (k + 1) f (PySem.W.fnOf nm ql pr bd sc dV kV doc pm an cdv ct) ps sp := by
  refine ⟨len, fun A outer s H args us vs Q E hg hr e0 => ?_⟩
  -- the library's rule for every surroundings, asked of a promise that holds at these alone
  intro hbi r hsp
  have hl := len _ _ _ _ hsp
  have KX : K.In s.heap := e0.mod.kin.keeps fun b o e => (e0.bs b o e).1
  have hkd : ∀ y ∈ ps.zip us, sc.names.lookup y.1 = some .local ∨
      (sc.names.lookup y.1 = some .cell ∧ ((cellsFrom (s.heap.objs.size + 1) sc.names []).lookup y.1).isSome = true) := by
    rintro ⟨n, v⟩ hy
    cases S.par n (List.of_mem_zip hy).1 with
    | inl q => exact .inl q
    | inr q => exact .inr ⟨q, PySem.W.cellsFrom_some _ _ _ (.inl q)⟩
  apply codeAny_call_function hr.depth (KX _ _ lk) rfl S.co S.gen rfl (PySem.W.codeRec_of KX hcd) (hbi _ _ _ _ _)
  apply wpAny_newFunctionEnv_cells S.kind hkd
  rintro env rfl s1 x
  refine ⟨(e0.mod.nolimit.keeps fun b o e => (e0.bs b o e).1).keeps x.toInCall.keep, codeAny_func ?_⟩
  obtain ⟨t, ht, hq⟩ := hb A outer s H vs Q E hg (hr.deeper _) hsp
  have run := ht.run [] s1 (start N vs) H _ (inv_start S hr.hd e0 hl r x) hq
  refine wpAny_mono run ?_ (fun _ _ h => h)
  rintro (_ | _ | _ | u) s' hs
  · obtain ⟨σ', H', J, q⟩ := hs
    exact ⟨.non, H', J.os, J.bare, J.base, J.hok, rfl, q⟩
  · obtain ⟨_, _, _, q⟩ := hs
    exact q.elim
  · obtain ⟨_, _, _, q⟩ := hs
    exact q.elim
  · obtain ⟨v, σ', H', J, rv, q⟩ := hs
    exact ⟨v, H', J.os, J.bare, J.base, J.hok, rv, q⟩
end
end G1

set_option maxHeartbeats 4000000
namespace G1
open PySem PySem.Spec PyProof.Rows L2
section
variable {X : Cx} {k : Nat} {f : Addr} {fd : FuncData} {ps : List Str} {sp : Sp} {dvs : List V} {ds : List Value} {x : Str} {p pos : Pos} {e : Expr} {es : List Expr} {t : TA}
theorem go_fn {pins : List (Addr × Obj)} {σ : L2.St} {H : Hp} {s : Shared} {Q : VK} {us : List Value} {vs : List V} (F : FnG X.prog X.w X.K X.mg X.base k f fd ps sp) (hg : Gd X.A) (hr : Room k X.A)
    (hb : Binds X.K fd ps ds) (hd : Vals dvs ds) (I : Inv X pins σ H s) (r : Vals vs us) (h : sp (vs ++ dvs) H Q E0) :
    wpAny (model X.prog X.w) X.A (call (.ref f) us) (EP X pins σ Q) X.xe s := by
  have r2 : Vals (vs ++ dvs) (us ++ ds) := r.append hd
  have hl : (us ++ ds).length = ps.length := r2.length.symm.trans (F.len _ _ _ _ h)
  apply wpAny_call
  refine codeAny_mono (F.run X.A X.stack s H ⟨us, []⟩ (us ++ ds) (vs ++ dvs) Q E0 hg hr I.env0 (hb s us I.kIn hl) r2 h) ?_
  rintro (er | (_ | _ | _ | u)) s' hq
  · exact False.elim hq
  · exact hq.elim
  · exact hq.elim
  · exact hq.elim
  · exact I.after hq
theorem pe_callG (F : FnG X.prog X.w X.K X.mg X.base k f fd ps sp) (hgd : Gd X.A) (hr : Room k X.A) (hg : Gl X x) (hm : X.mg x = some (.ref f)) (hk : PySem.W.keepIn X.K (.ref f) = true)
    (hb : Binds X.K fd ps ds) (hd : Vals dvs ds) (ha : PA X (e :: es) t) (hdb : (x == ("__debug__" : Str)) = false := by decide)
    (he : starEach (e :: es) X.env = (false, eval e X.env) :: starEach es X.env := by rfl) (hpl : (backTo pos (starEach es X.env)).any (·.1) = false := by rfl) :
    PE X (.Call (.Name x p) (e :: es) [] pos) (tCall sp dvs E0 t) := by
  constructor
  intro pins s σ H Q I h
  apply wpAny_Call_Name_kw (ld_glob I hg hm ?_ hdb)
  exact PySem.W.callWith_K (h₀ := X.base) I.ok.mod.kin hk (thn (ha.run pos pins s σ H _ I h) fun us s1 ⟨vs, H1, I1, r, q⟩ => ⟨I1.kIn, go_fn F hgd hr hb hd I1 r q⟩) he hpl
end
/-! ### the law itself, called where no guard stands -/
theorem gd_caller : Gd callerA := rfl
section
variable {P : Program} {w : World} {K : PySem.W.Frag} {mg mb : Str → Option Value} {k : Nat} {fa a : Addr} {fd : FuncData} {x : Str} {sp : Sp} {s₁ : Shared} {vs : List Value} {ns : List Int}
/-- from an abstract heap in which nothing but the script is told -/
theorem law_at {H : Hp} (KX : K.In s₁.heap) (hns : s₁.heap.Ns mainGlobals mg) (hb : s₁.heap.Ns builtinsNs mb) (hbb : ∀ x : Str, x ≠ "__name__" → mb x = bootBuiltins x) (hlim : s₁.heap.NoLimit) (hg : s₁.gens = #[])
    (ha : s₁.heap.get? a = some { cls := .type "list", data := .seq vs.toArray }) (hr : Room k callerA)
    (F : ∀ base : Heap, K.In base → base.Ns mainGlobals mg → FnG P w K mg base k fa fd [x] sp) (hbind : ∀ (s : Shared) (u : Value), BindsTo s fd ⟨[u], []⟩ [(x, u)])
    (hO : Only H) (hS : SqL K H a (ns.map V.int)) (hok : HOk P w H s₁.heap) (hA : ∀ b, H b ≠ none → b = a) (hK : H a ≠ none → K.lookup a = none)
    (hsp : sp [.ref a] H (fun v _ => v = .bl true) fun _ _ _ => False) :
    codeAny (model P w) callerA (.call (.ref fa) ⟨[.ref a], []⟩) (fun r s' => r = .ok (.ret (.bool true)) ∧ OldK s₁.heap s'.heap ∧ s'.os = s₁.os ∧ AllBare s'.gens) s₁ := by
  have one : ∀ {b : Addr}, (∀ z, H b ≠ some z) → H b = none := fun {b} n => by
    cases q : H b with
    | none => rfl
    | some u => exact (n u q).elim
  have hid : ∀ {b : Addr} {o : Obj} {es : Array DictEntry} {ep : Nat}, s₁.heap.get? b = some o → o.data = .dict es ep → (hidT s₁.heap H).get? b = some o := by
    intro b o es ep e d
    refine hidT_get e (one fun z q => ?_)
    have eb := hA b (by rw [q]; simp)
    subst eb
    rw [ha] at e
    cases e
    exact (show Data.seq vs.toArray _ ≠ Data.dict es ep from fun z => by cases z) d
  have ns_ : ∀ {b : Addr} {m : Str → Option Value}, s₁.heap.Ns b m → (hidT s₁.heap H).Ns b m := by
    rintro b m ⟨o, es, ep, e, d, r⟩
    exact ⟨o, es, ep, hid e d, d, r⟩
  have KB : K.In (hidT s₁.heap H) := by
    intro b o e
    refine hidT_get (KX b o e) (one fun z q => ?_)
    have eb := hA b (by rw [q]; simp)
    subst eb
    rw [hK (by rw [q]; simp)] at e
    cases e
  obtain ⟨mc, l1, l2⟩ := hlim
  have M0 : Mod K mg (hidT s₁.heap H) := ⟨KB, ns_ hns, ⟨mb, ns_ hb, hbb⟩, ⟨mc, ns_ l1, l2⟩⟩
  have nofs : ∀ {b : Addr}, b ∉ frs ([] : List Env) := fun {b} z => by
    have z' : b ∈ ([] : List Addr) := z
    simp at z'
  have E1 : Env0 P w K mg (hidT s₁.heap H) callerA [] s₁ H := {
    frames := rfl
    mod := M0
    bs := fun b o e => of_hidT e
    bsz := Nat.le_of_eq (hidT_size _ _)
    funs := trivial
    frf := fun b z => (nofs z).elim
    hok := hok
    bare := .of_eq hg }
  refine codeAny_mono ((F _ KB (ns_ hns)).run callerA [] s₁ H ⟨[.ref a], []⟩ [.ref a] [.ref a] _ _ gd_caller hr E1 (hbind s₁ (.ref a)) (.cons rfl .nil) hsp) ?_
  rintro (er | (_ | _ | _ | u)) s' h
  · exact False.elim h
  · exact False.elim h
  · exact False.elim h
  · exact False.elim h
  · obtain ⟨v, H', eos, bare, un, hok', r', q⟩ := h
    have q' : v = .bl true := q
    subst q'
    have eu : u = Value.bool true := r'
    subst eu
    refine ⟨rfl, OldK.of_keep fun b o e => ?_, eos, bare⟩
    rcases hO b with z | ⟨ob, xs, z⟩
    · exact un.keep b o e z nofs (by simp)
    · obtain ⟨e2, _⟩ := hok' b _ (un.frzs b ob _ z)
      obtain ⟨e1, _⟩ := hok b _ z
      rw [e] at e1
      cases e1
      exact e2
theorem law_callG (KX : K.In s₁.heap) (hns : s₁.heap.Ns mainGlobals mg) (hb : s₁.heap.Ns builtinsNs mb) (hbb : ∀ x : Str, x ≠ "__name__" → mb x = bootBuiltins x) (hlim : s₁.heap.NoLimit) (hg : s₁.gens = #[])
    (ha : s₁.heap.get? a = some { cls := .type "list", data := .seq vs.toArray }) (hi : IntsAre vs ns) (hl : ns.length ≤ sizeLine) (hr : Room k callerA)
    (F : ∀ base : Heap, K.In base → base.Ns mainGlobals mg → FnG P w K mg base k fa fd [x] sp) (hbind : ∀ (s : Shared) (u : Value), BindsTo s fd ⟨[u], []⟩ [(x, u)])
    (hsp : ∀ H : Hp, Only H → SqL K H a (ns.map V.int) → sp [.ref a] H (fun v _ => v = .bl true) fun _ _ _ => False) :
    codeAny (model P w) callerA (.call (.ref fa) ⟨[.ref a], []⟩) (fun r s' => r = .ok (.ret (.bool true)) ∧ OldK s₁.heap s'.heap ∧ s'.os = s₁.os ∧ AllBare s'.gens) s₁ := by
  have rv := vals_ints hi
  cases hk : K.lookup a with
  | some o =>
    have e := KX a o hk
    rw [ha] at e
    cases e
    have S : SqL K (fun _ => none) a (ns.map V.int) := .inr ⟨_, vs.toArray, _, hk, rfl, rfl, rfl, by rw [List.size_toArray, hi.length]; exact hl, by simpa using rv⟩
    exact law_at KX hns hb hbb hlim hg ha hr F hbind (fun _ => .inl rfl) S (fun _ _ z => nomatch z) (fun _ z => (z rfl).elim) (fun z => (z rfl).elim) (hsp _ (fun _ => .inl rfl) S)
  | none =>
    have yes : ∀ u : HO, (fun b : Addr => if b = a then some u else none) a = some u := fun u => if_pos rfl
    have no : ∀ {u : HO} {b : Addr}, b ≠ a → (fun b : Addr => if b = a then some u else none) b = none := fun {u b} n => if_neg n
    have O : Only (fun b : Addr => if b = a then some (HO.frz { cls := .type "list", data := .seq vs.toArray } (.lst (ns.map V.int))) else none) := by
      intro b
      by_cases q : b = a
      · exact .inr ⟨_, _, if_pos q⟩
      · exact .inl (if_neg q)
    have S := hsp _ O (.inl (.inr ⟨_, yes _⟩))
    refine law_at KX hns hb hbb hlim hg ha hr F hbind O (.inl (.inr ⟨_, yes _⟩)) (fun b u z => ?_) (fun b z => ?_) (fun _ => hk) S
    · by_cases q : b = a
      · subst q
        have z' := (yes _).symm.trans z
        cases z'
        exact ⟨ha, by rw [List.length_map]; exact hl, vs, _, rv, ha⟩
      · rw [if_neg q] at z
        cases z
    · by_cases q : b = a
      · exact q
      · exact (z (no q)).elim
end
theorem walk_ofG {l : PySem.W.OpenLaw} {n k : Nat} {q : Program} {loose : List Str} {XP : (Str → Option Value) → Heap → Prop} {YP : World → Heap → Prop} {d : DefRec} {x : Str}
    (hn : l.most = some n) (hn2 : n ≤ sizeLine) (hdf : d.params.defaults = []) (hr : Room k callerA)
    (F : ∀ (w : World) (mg : Str → Option Value) (fa : Addr) (h : Heap), YP w h → h.Ns mainGlobals mg → mg d.name = some (.ref fa) →
      ∃ (K : PySem.W.Frag) (fd : FuncData) (sp : Sp), K.In h ∧ (∀ (s : Shared) (u : Value), BindsTo s fd ⟨[u], []⟩ [(x, u)]) ∧
        (∀ (H : Hp) (a : Addr) (ns : List Int), ns.length ≤ n → Only H → SqL K H a (ns.map V.int) → sp [.ref a] H (fun v _ => v = .bl true) fun _ _ _ => False) ∧
        ∀ base : Heap, K.In base → base.Ns mainGlobals mg → FnG l.prog w K mg base k fa fd [x] sp) :
    PySem.W.WalkO q loose XP YP l.row.toRowW d [] (fun f vs => PySem.call f vs) := by
  apply Att.attach_call hn hdf
  intro w s₀ s₁ mg mb fa o pm cd doc a vs ns G Y ho hd hcd hmg hobj hints hlen hg
  obtain ⟨K, fd, sp, KX, hb, hsp, hF⟩ := F w mg fa _ Y G.T.g hmg
  exact law_callG KX G.T.g G.T.b G.T.builtins G.T.nolimit hg hobj hints (Nat.le_trans hlen hn2) hr hF hb fun H hO hS => hsp H a ns hlen hO hS
end G1

set_option maxHeartbeats 4000000
/-! C(name = v), C an own exception class over ValueError with an __init__ of its own. -/
namespace G1
open PySem PySem.W PySem.Calls PyProof.Rows PySem.HandSPX
section
variable {prog : Program} {w : World} {A : Around} {E : Value → Shared → Prop} {R : Result → Shared → Prop} {h : Heap} {g : Array GenState} {d : Drawn} {t : Nat} {os : OsState}
variable {nm q : Str} {C N : Addr} {bs bm : List Value} {hdct : Bool} {sn : List Str} {sub : List Value} {ab : Bool} {col : Option Bool} {dd : Option Addr} {k0 k1 k2 k3 k5 : Option Value}
abbrev veC (nm q : Str) (C N : Addr) (bs bm : List Value) (hdct : Bool) (sn : List Str) (sub : List Value) (ab : Bool) (col : Option Bool) (dd : Option Addr) (k0 k1 k2 k3 k5 : Option Value) : Obj :=
  excClassObj nm q C N bs bm hdct sn sub ab col dd k0 k1 k2 k3 k5 "ValueError.__new__"
theorem kw_new (hb : refsVE bm = true) {v : Value} {y : Str} {Q : Unit → Shared → Prop}
    (hC : h.get? C = some (veC nm q C N bs bm hdct sn sub ab col dd k0 k1 k2 k3 k5)) (hq : Q () ⟨h, g, d, t, os⟩) :
    wpAny (model prog w) A (checkBuiltinCall "ValueError.__new__" ⟨[.ref C], [(y, v)]⟩) Q E ⟨h, g, d, t, os⟩ := by
  have F := F.excBase_ValueError
  have hc : (Value.ref C :: bm).contains (.type "ValueError") = true := by
    rw [List.contains_cons, refsVE_contains "ValueError" bm hb]
    rfl
  have star := F.noStar
  simp only [checkBuiltinCall, F.newKind, F.newSplit, F.newRow]
  repeat (first
    | refine wpAny_loadPart_at hC ?_
    | (refine wpAny_isSubtype_exc hC ?_; rw [hc])
    | refine wpAny_staticBase_exc hC ?_
    | refine wpAny_madeBy_exc hC ?_
    | simp only [bne_self_eq_false, Bool.false_eq_true, if_false]
    | wp_step)
  exact hq
theorem kw_made (hb : refsVE bm = true) {v : Value} {y : Str}
    (hC : h.get? C = some (veC nm q C N bs bm hdct sn sub ab col dd k0 k1 k2 k3 k5))
    (hq : R (.ok (.ret (.ref (h.objs.size + 1)))) ⟨(h.push (W.kdv_tup [])).push (excO C h.objs.size), g, d, t, os⟩) :
    codeAny (model prog w) A (.builtin "ValueError.__new__" ⟨[.ref C], [(y, v)]⟩) R ⟨h, g, d, t, os⟩ := by
  have F := F.excBase_ValueError
  have ends := F.ends
  have c1 : (Value.ref C :: bm).contains (.type "ValueError") = true := by
    rw [List.contains_cons, refsVE_contains "ValueError" bm hb]
    rfl
  have c2 : (Value.ref C :: bm).contains (.type "AttributeError") = false := by
    rw [List.contains_cons, refsVE_contains "AttributeError" bm hb]
    rfl
  have c3 : (Value.ref C :: bm).contains (.type "NameError") = false := by
    rw [List.contains_cons, refsVE_contains "NameError" bm hb]
    rfl
  refine codeAny_builtinAt F.entry ?_
  unfold Builtin.«BaseException.__new__»
  refine PySem.wpAt_bind ?_
  show PySem.wpAt _ _ _ (stack >>= _) _ _ _
  refine PySem.wpAt_bind (PySem.wpAt_stack fun p below => PySem.wpAt_of_wpAny ?_)
  wp_walk
  refine PySem.wpAt_of_wpAny ?_
  rw [F.owner]
  repeat (first
    | with_reducible refine wpAny_madeHere_exc F.canon hC ?_
    | with_reducible refine wpAny_loadPart_at hC ?_
    | (with_reducible refine wpAny_isSubtype_exc hC ?_; first | rw [c1] | rw [c2] | rw [c3])
    | wp_step)
  show R _ _
  rw [Heap.size_push]
  exact hq
theorem kw_chkT {v : Value} {y : Str} {Q : Unit → Shared → Prop}
    (hC : h.get? C = some (veC nm q C N bs bm hdct sn sub ab col dd k0 k1 k2 k3 k5)) (hq : Q () ⟨h, g, d, t, os⟩) :
    wpAny (model prog w) A (checkBuiltinCall "type.__call__" ⟨[.ref C], [(y, v)]⟩) Q E ⟨h, g, d, t, os⟩ := by
  have z := tc_sub
  have hT : (⟨h, g, d, t, os⟩ : Shared).TypeIs (.ref C) "type" := ⟨_, hC, rfl⟩
  simp only [checkBuiltinCall, tc_kind, tc_split]
  repeat (any_goals (first
    | assumption
    | with_reducible refine wpAny_loadPart_at hC ?_
    | with_reducible refine wpAny_onRaise ?_
    | with_reducible refine wpAny_map ?_
    | wp_step))
theorem kw_typeCall (hb : refsVE bm = true) {v : Value} {y : Str} {fI : Addr} {Q : PySem.Fin → Shared → Prop}
    (hC : h.get? C = some (veC nm q C N bs bm hdct sn sub ab col dd k0 k1 k2 k3 k5))
    (hi : W.Looks (model prog w) h (typeLookup (.ref C) "__init__") (some (.ref fI))) (hs : ∀ self, W.Looks (model prog w) h (bindSpecial (.ref fI) self) (.ref fI, [self]))
    (hq : codeAny (model prog w) A (.call (.ref fI) ⟨[.ref (h.objs.size + 1)], [(y, v)]⟩)
      (fun r s' => match r with | .ok (.ret u) => u = .none ∧ Q (.done (.ret (.ref (h.objs.size + 1)))) s' | .ok _ => False | .error e => E e s')
      ⟨(h.push (W.kdv_tup [])).push (excO C h.objs.size), g, d, t, os⟩) :
    wpAny (model prog w) A (Builtin.«type.__call__» ⟨[.ref C], [(y, v)]⟩) Q E ⟨h, g, d, t, os⟩ := by
  have F := F.excBase_ValueError
  repeat (first | with_reducible refine wpAny_loadPart_at hC ?_ | with_reducible refine wpAny_madeBy_exc hC ?_ | wp_step)
  apply codeAny_call_builtin_code (Code.quiet_builtin _ F.quiet) (kw_new hb hC ?_)
  apply kw_made hb hC
  show wpAny _ _ _ _ _ _
  have up : ∀ b o, h.get? b = some o → ((h.push (W.kdv_tup [])).push (excO C h.objs.size)).get? b = some o := fun b o e => Heap.get?_push_of_some _ (Heap.get?_push_of_some _ e)
  have at1 : ((h.push (W.kdv_tup [])).push (excO C h.objs.size)).get? (h.objs.size + 1) = some (excO C h.objs.size) := by heap_get
  have hC1 := up _ _ hC
  have own : (Value.ref C :: bm).contains (.ref C) = true := by simp
  have L1 := hi.keeps up
  have L2 := (hs (.ref (h.objs.size + 1))).keeps up
  unfold isInstance
  repeat (first | with_reducible refine wpAny_loadPart_at at1 ?_ | (with_reducible refine wpAny_isSubtype_exc hC1 ?_; rw [own]) | wp_step)
  show wpAny _ _ (typeLookup (.ref C) _) _ _ _
  refine L1.at ?_
  refine wpAny_holding (wpAny_bind (L2.at ?_))
  refine wpAny_bind (wpAny_call (codeAny_mono hq ?_))
  rintro (e | (_ | _ | _ | u)) s' z
  · exact z
  · exact z.elim
  · exact z.elim
  · exact z.elim
  · obtain ⟨rfl, z⟩ := z
    first
      | exact wpAny_pure (wpAny_pure z)
      | (wp_walk; exact z)
theorem kw_call (hb : refsVE bm = true) {v : Value} {y : Str} {fI : Addr}
    (hC : h.get? C = some (veC nm q C N bs bm hdct sn sub ab col dd k0 k1 k2 k3 k5))
    (hi : W.Looks (model prog w) h (typeLookup (.ref C) "__init__") (some (.ref fI))) (hs : ∀ self, W.Looks (model prog w) h (bindSpecial (.ref fI) self) (.ref fI, [self]))
    (hq : codeAny (model prog w) (A.under (.builtin "type.__call__" ⟨[.ref C], [(y, v)]⟩)) (.call (.ref fI) ⟨[.ref (h.objs.size + 1)], [(y, v)]⟩) (W.InitBack (h.objs.size + 1) R)
      ⟨(h.push (W.kdv_tup [])).push (excO C h.objs.size), g, d, t, os⟩) :
    codeAny (model prog w) A (.call (.ref C) ⟨[], [(y, v)]⟩) R ⟨h, g, d, t, os⟩ := by
  have z1 := tc_lookup
  have z2 := tc_bind (.ref C)
  have hTy : (⟨h, g, d, t, os⟩ : Shared).TypeIs (.ref C) "type" := ⟨_, hC, rfl⟩
  apply codeAny_of_tree
  show wpAny _ _ (callAny (.ref C) _) _ _ _
  repeat (any_goals (first | assumption | with_reducible refine wpAny_loadPart_at hC ?_ | wp_step))
  refine ⟨rfl, ?_⟩
  apply codeAny_call_builtin_at (Code.quiet_builtin _ (by decide +kernel)) entry_typeCall
  apply kw_chkT hC
  apply kw_typeCall hb hC hi hs
  refine codeAny_mono hq ?_
  rintro (e | (_ | _ | _ | u)) s' z <;> exact z
end
end G1

set_option maxHeartbeats 4000000
/-! Own exceptions as values over the layer: made, looked at, asked by isinstance. -/
namespace G1
open PySem PySem.Spec PyProof.Rows L2
/-- the heap behind C(v): the exception at a, its dict at d -/
def errH (H : Hp) (a d C : Addr) (v : V) : Hp := upd (upd (upd H a (exo a C none)) d (exd d [("value", v)])) a (exo a C (some d))
/-- an exception of the class at C that holds v -/
def ErrAt (H : Hp) (a C : Addr) (v : V) : Prop := ∃ d, H a = some (exo a C (some d)) ∧ H d = some (exd d [("value", v)])
theorem errH_at {H : Hp} {a d C : Addr} {v : V} (n : d ≠ a) : ErrAt (errH H a d C v) a C v := ⟨d, upd_same, by unfold errH; rw [upd_ne n, upd_same]⟩
theorem errH_same {H : Hp} {a d C : Addr} {v : V} (ha : H a = none) (hd : H d = none) : Same H (errH H a d C v) := fun b o e => by
  unfold errH
  rw [upd_ne (ne_of_none e ha), upd_ne (ne_of_none e hd), upd_ne (ne_of_none e ha)]
  exact e
theorem ErrAt.same {H H' : Hp} {a C : Addr} {v : V} (h : ErrAt H a C v) (s : Same H H') : ErrAt H' a C v := by
  obtain ⟨d, h1, h2⟩ := h
  exact ⟨d, s _ _ h1, s _ _ h2⟩
def spE (C : Addr) : Sp := fun vs H Q _ => ∃ (a : Addr) (v : V), vs = [.ref a, v] ∧ H a = some (exo a C none) ∧
  ∀ d, H d = none → d ≠ a → Q .non (upd (upd H d (exd d [("value", v)])) a (exo a C (some d)))
/-- what the written part says of such a class and its __init__ -/
structure EC (K : PySem.W.Frag) (C fI : Addr) : Prop where
  t : OexC K C
  x : ExcC K C
  nv : PySem.W.findIn K (.ref C) "value" = some none
  iC : PySem.W.findIn K (.ref C) "__init__" = some (some (.ref fI))
  tI : PySem.W.typeIn K (.ref fI) = some (.type "function")
section
variable {X : Cx} {pins : List (Addr × Obj)} {σ : L2.St} {H : Hp} {s : Shared} {Q : VK} {C fI : Addr} {k : Nat} {fd : FuncData} {ps : List Str} {sp : Sp} {dvs : List V} {ds : List Value} {x : Str} {p pos : Pos}
theorem new_exo (I : Inv X pins σ H s) (us : List Value) : H (s.heap.objs.size + 1) = none ∧
    Inv X pins σ (upd H (s.heap.objs.size + 1) (exo (s.heap.objs.size + 1) C none)) { s with heap := (s.heap.push (PySem.W.kdv_tup us)).push (PySem.HandSPX.excO C s.heap.objs.size) } := by
  obtain ⟨hp, g, dr, tk, os⟩ := s
  have hget : ((hp.push (PySem.W.kdv_tup us)).push (PySem.HandSPX.excO C hp.objs.size)).get? (hp.objs.size + 1) = some (PySem.HandSPX.excO C hp.objs.size) := by heap_get
  refine ⟨I.hok.fresh (Nat.le_succ _), ?_⟩
  exact I.laid (t' := tk) (a := hp.objs.size + 1) (o := exo (hp.objs.size + 1) C none) (h' := (hp.push (PySem.W.kdv_tup us)).push (PySem.HandSPX.excO C hp.objs.size))
    (fun b o e => Heap.get?_push_of_some _ (Heap.get?_push_of_some _ e)) (Nat.le_succ _) (exo_ok hget)
theorem run_mkE {us : List Value} {vs : List V} (T : OexC X.K C) (iC : PySem.W.findIn X.K (.ref C) "__init__" = some (some (.ref fI))) (tI : PySem.W.typeIn X.K (.ref fI) = some (.type "function"))
    (F1 : FnOk X.prog X.w X.K X.mg X.base CX0 k fI fd ps sp) (hr : Room (k + 1) X.A) (hb : Binds X.K fd ps ds) (hd : Vals dvs ds) (I : Inv X pins σ H s) (r : Vals vs us) (hz : vs.length ≤ 1000)
    (h : ∀ a, H a = none → sp (.ref a :: (vs ++ dvs)) (upd H a (exo a C none)) (fun v H2 => v = .non ∧ Q (.ref a) H2) E0) :
    wpAny (model X.prog X.w) X.A (call (.ref C) us) (EP X pins σ Q) X.xe s := by
  obtain ⟨nm, q, N, bs, bm, sn, sub, ab, col, dd, k0, k1, k2, k3, k5, hC, hbm⟩ := T.cls
  obtain ⟨hn, I2⟩ := new_exo (C := C) I us
  have hq := h _ hn
  have r2 : Vals (V.ref (s.heap.objs.size + 1) :: (vs ++ dvs)) (Value.ref (s.heap.objs.size + 1) :: (us ++ ds)) := .cons rfl (r.append hd)
  have hl : (Value.ref (s.heap.objs.size + 1) :: us ++ ds).length = ps.length := r2.length.symm.trans (F1.len _ _ _ _ hq)
  have hus : us.length ≤ sizeLine := by
    rw [← Paired.length r, sizeLine_eq]
    omega
  have KX := I.kIn
  obtain ⟨hp, g, dr, tk, os⟩ := s
  apply wpAny_call
  refine PySem.HandSPX.call_own F.excBase_ValueError (fun Y => PySem.HandSPX.refsVE_contains Y bm hbm) (KX _ _ hC) (PySem.W.looks_findIn KX iC) (fun self => PySem.W.bind_fn KX self tI) hus ?_
  refine codeAny_mono (F1.run _ X.stack _ _ ⟨Value.ref (hp.objs.size + 1) :: us, []⟩ (Value.ref (hp.objs.size + 1) :: (us ++ ds)) _ _ E0 (hr.make C us []) (I2.env0.make C us []) (hb _ (Value.ref (hp.objs.size + 1) :: us) I2.kIn hl) r2 hq) ?_
  rintro (er | (_ | _ | _ | u)) s' hq'
  · exact False.elim hq'
  · exact hq'.elim
  · exact hq'.elim
  · exact hq'.elim
  · obtain ⟨v, H', I3, rv, ev, q3⟩ := I2.after hq'
    subst ev
    exact ⟨rv, ⟨V.ref (hp.objs.size + 1), H', I3, rfl, q3⟩⟩
def tMkE (C : Addr) (sp : Sp) (dvs : List V) (t : TA) : TE := fun σ H Q => t σ H fun vs H1 => vs.length ≤ 1000 ∧ ∀ a, H1 a = none → sp (.ref a :: (vs ++ dvs)) (upd H1 a (exo a C none)) (fun v H2 => v = .non ∧ Q (.ref a) H2) E0
theorem pe_mkE {e : Expr} {es : List Expr} {t : TA} (T : EC X.K C fI) (F1 : FnOk X.prog X.w X.K X.mg X.base CX0 k fI fd ps sp) (hr : Room (k + 1) X.A) (hb : Binds X.K fd ps ds) (hd : Vals dvs ds) (hg : Gl X x) (hm : X.mg x = some (.ref C)) (ha : PA X (e :: es) t)
    (hdb : (x == ("__debug__" : Str)) = false := by decide) (he : starEach (e :: es) X.env = (false, eval e X.env) :: starEach es X.env := by rfl) (hpl : (backTo pos (starEach es X.env)).any (·.1) = false := by rfl) :
    PE X (.Call (.Name x p) (e :: es) [] pos) (tMkE C sp dvs t) := by
  constructor
  intro pins s σ H Q I h
  apply wpAny_Call_Name_kw (ld_glob I hg hm ?_ hdb)
  refine PySem.W.callWith_K (h₀ := X.base) I.ok.mod.kin T.t.kC (thn (ha.run pos pins s σ H _ I h) fun us s1 z => ?_) he hpl
  obtain ⟨vs, H1, I1, r1, hz, q1⟩ := z
  exact ⟨I1.kIn, run_mkE T.t T.iC T.tI F1 hr hb hd I1 r1 hz q1⟩
theorem pe_mkE0 (T : EC X.K C fI) (F1 : FnOk X.prog X.w X.K X.mg X.base CX0 k fI fd ps sp) (hr : Room (k + 1) X.A) (hb : Binds X.K fd ps ds) (hd : Vals dvs ds) (hg : Gl X x) (hm : X.mg x = some (.ref C))
    (hdb : (x == ("__debug__" : Str)) = false := by decide) : PE X (.Call (.Name x p) [] [] pos) (tMkE C sp dvs tNil) := by
  constructor
  intro pins s σ H Q I h
  apply wpAny_Call_Name_kw (ld_glob I hg hm ?_ hdb)
  obtain ⟨hz, q1⟩ := h
  exact PySem.W.callWith_K0 I.kIn T.t.kC (run_mkE (us := []) (vs := []) T.t T.iC T.tI F1 hr hb hd I .nil hz q1)
/-- C(k = v) -/
def tMkEK (C : Addr) (sp : Sp) (gV : List V → List V → List V) (t : TA) : TE := fun σ H Q => t σ H fun zs H1 => zs.length = 1 ∧ ∀ a, H1 a = none → sp (gV [.ref a] zs) (upd H1 a (exo a C none)) (fun v H2 => v = .non ∧ Q (.ref a) H2) E0
theorem pe_mkEK {kws : List Keyword} {y : Str} {tk : TA} {gw : List Value → List Value → List Value} {gV : List V → List V → List V} (T : EC X.K C fI) (F1 : FnOk X.prog X.w X.K X.mg X.base CX0 k fI fd ps sp) (hr : Room (k + 1) X.A)
    (hb : KBn X.K fd ps 1 [y] gw gV) (hg : Gl X x) (hm : X.mg x = some (.ref C)) (hkw : PK X kws tk)
    (hall : (backToKw pos (keywordEach kws X.env)).all (·.1.isSome) = true := by rfl) (hks : (backToKw pos (keywordEach kws X.env)).filterMap (·.1) = [y] := by rfl) (hdb : (x == ("__debug__" : Str)) = false := by decide)
    (hpl : ((backTo pos (starEach [] X.env)).any (·.1) || (backToKw pos (keywordEach kws X.env)).any (·.1.isNone)) = false := by rfl) :
    PE X (.Call (.Name x p) [] kws pos) (tMkEK C sp gV tk) := by
  constructor
  intro pins s σ H Q I h
  apply wpAny_Call_Name_kw (ld_glob I hg hm ?_ hdb)
  refine PySem.W.callWith_KW0 (h₀ := X.base) I.ok.mod.kin T.t.kC hall (thn (hkw.run pos pins s σ H _ I h) fun ws s1 z => ?_) hpl
  obtain ⟨zs, H1, I1, rz, l1, q⟩ := z
  refine ⟨I1.kIn, ?_⟩
  rw [hks]
  obtain ⟨z, rfl⟩ : ∃ z, zs = [z] := by
    match zs, l1 with
    | [z], _ => exact ⟨z, rfl⟩
  cases rz with
  | @cons _ u _ _ ru rn =>
    cases rn
    obtain ⟨nm, q0, N, bs, bm, sn, sub, ab, col, dd, k0, k1, k2, k3, k5, hC, hbm⟩ := T.t.cls
    obtain ⟨hn, I2⟩ := new_exo (C := C) I1 []
    have hq := q _ hn
    have r2 : Vals (gV [V.ref (s1.heap.objs.size + 1)] [z]) (gw [Value.ref (s1.heap.objs.size + 1)] [u]) := hb.rel (.cons rfl .nil) (.cons ru .nil)
    have KX := I1.kIn
    obtain ⟨hp, g, dr, tk, os⟩ := s1
    apply wpAny_call
    show codeAny (model X.prog X.w) X.A (.call (.ref C) ⟨[], [(y, u)]⟩) _ _
    refine kw_call hbm (KX _ _ hC) (PySem.W.looks_findIn KX T.iC) (fun self => PySem.W.bind_fn KX self T.tI) ?_
    refine codeAny_mono (F1.run _ X.stack _ _ ⟨[Value.ref (hp.objs.size + 1)], [(y, u)]⟩ (gw [Value.ref (hp.objs.size + 1)] [u]) _ _ E0 (hr.make C [] [(y, u)]) (I2.env0.make C [] [(y, u)]) (hb.to _ [Value.ref (hp.objs.size + 1)] [u] I2.kIn rfl rfl) r2 hq) ?_
    rintro (er | (_ | _ | _ | uu)) s' hq'
    · exact False.elim hq'
    · exact hq'.elim
    · exact hq'.elim
    · exact hq'.elim
    · obtain ⟨v, H', I3, rv, ev, q3⟩ := I2.after hq'
      subst ev
      exact ⟨rv, ⟨V.ref (hp.objs.size + 1), H', I3, rfl, q3⟩⟩
end
end G1

set_option maxHeartbeats 4000000
/-! isinstance, the field, of such an exception; repr of data; powers. -/
namespace G1
open PySem PySem.Spec PyProof.Rows L2
/-! ### isinstance -/
theorem kin_cls {prog : Program} {w : World} {A : Around} {E : Value → Shared → Prop} {s : Shared} {K : PySem.W.Frag} {x D : Addr} {ox : Obj} {od : Option Obj} {Q : Option Value → Shared → Prop}
    (C : ExcC K D) (hf : PySem.W.findObj K D od "__class__" = some (.bind (.builtin "getset_descriptor.__get__") (.builtin "object.__class__")))
    (X : K.In s.heap) (I : PySem.W.InstAt s.heap x ox D od) (h : Q (some (.ref D)) { s with toks := s.toks + 1 }) : wpAny (model prog w) A (getAttr? (.ref x) "__class__") Q E s := by
  obtain ⟨hp, g, d, t, os⟩ := s
  have k0 := I.type (M := model prog w)
  have k1 := PySem.W.looks_findIn (M := model prog w) X C.hg
  have k2 := PySem.W.looks_findIn (M := model prog w) X C.hk
  have k3 := PySem.W.looks_find (M := model prog w) X I hf
  have ks : PySem.W.Looks (model prog w) hp (isInstance (.ref x) (.type "BaseException")) true := k0.andThen (PySem.W.looks_subIn X C.hs)
  have b2 : (Value.builtin "BaseException.__getattribute__" == Value.builtin "object.__getattribute__") = false := by decide +kernel
  have b1 : (onTheHeap (Value.ref D) && Value.builtin "BaseException.__getattribute__" == Value.builtin "object.__getattribute__") = false := by
    rw [b2]
    rfl
  have b0 : (false && onTheHeap (Value.builtin "BaseException.__getattribute__")) = false := rfl
  unfold getAttr? getAttrBy? getAttrBy
  apply wpAny_bind
  apply wpAny_mkText
  apply wpAny_bind
  apply wpAny_attempt
  apply wpAny_holding
  refine wpAny_bind (k0.at ?_)
  refine wpAny_bind (k1.at ?_)
  show wpAny _ _ (if (onTheHeap (Value.ref D) && Value.builtin "BaseException.__getattribute__" == Value.builtin "object.__getattribute__") = true then _ else _) _ _ _
  rw [b1, if_neg Bool.false_ne_true]
  unfold getAttrByItsOwn hookBefore
  apply wpAny_bind
  rw [if_pos (show onTheHeap (Value.ref D) = true from rfl)]
  refine k2.at ?_
  apply wpAny_bind
  apply wpAny_attempt
  apply wpAny_holding
  unfold callGetattribute
  rw [b0, if_neg Bool.false_ne_true]
  unfold boundAndCalled
  rw [PySem.F.excAttr_ValueError.ga.bind (.ref x)]
  apply wpAny_bind
  apply wpAny_pure
  show wpAny _ _ (call (.builtin "BaseException.__getattribute__") [.ref x, .str "__class__" t]) _ _ _
  apply wpAny_call
  apply codeAny_call_builtin PySem.F.excAttr_ValueError.ga.plain PySem.F.entry_bexc_ga
  refine @PySem.W.check_slot (model prog w) _ _ ⟨hp, g, d, t + 1, os⟩ "BaseException.__getattribute__" "BaseException" "__getattribute__" (.ref x) [.str "__class__" t] [] _ (by decide +kernel) (by decide +kernel) ks (PySem.F.args_bexc_ga (.ref x) (.str "__class__" t)) ?_
  unfold Builtin.«object.__getattribute__»
  refine wpAny_bind (wpAny_of_eq (a := ((Value.ref x : Value), [Value.str "__class__" t])) (by first | rfl | (simp only [slotArgs]; rfl)) ?_)
  apply wpAny_bind
  apply wpAny_pure
  refine wpAny_bind (k0.at ?_)
  refine wpAny_bind (k3.at ?_)
  show wpAny _ _ (holding [Value.builtin "object.__class__"] (call (.builtin "getset_descriptor.__get__") [.builtin "object.__class__", .ref x, .ref D]) >>= ret) _ _ _
  apply wpAny_bind
  apply wpAny_holding
  apply wpAny_call
  refine PySem.W.class_get (s := ⟨hp, g, d, t + 1, os⟩) (ox := ox) (od := od) X I C.hm ?_
  apply wpAny_pure
  show wpAny _ _ (handedOut (.ref D)) _ _ _
  rw [PySem.W.handedOut_of (v := .ref D) rfl]
  first
    | exact wpAny_pure (wpAny_pure h)
    | exact wpAny_pure h
    | exact wpAny_pure (wpAny_bind (wpAny_pure (wpAny_pure h)))
theorem find_cls {K : PySem.W.Frag} {D : Addr} (C : ExcC K D) (od : Option Obj) : PySem.W.findObj K D od "__class__" = some (.bind (.builtin "getset_descriptor.__get__") (.builtin "object.__class__")) := by
  obtain ⟨cd, hc, _⟩ := PySem.W.any_some C.hd
  unfold PySem.W.findObj
  rw [hc, Option.bind_some, C.ha, Option.bind_some]
  simp [C.hn, C.ht]
theorem kit_exc {K : PySem.W.Frag} {x D : Addr} {ox : Obj} {od : Option Obj} (C : ExcC K D) : PySem.W.KitX K (.ref x) (.ref D) (fun h => PySem.W.InstAt h x ox D od) := by
  have cls : ∃ c' d' cd' sl', K.lookup D = some ⟨c', d', .cls cd', sl'⟩ := by
    obtain ⟨cd, hc, _⟩ := PySem.W.any_some C.hd
    unfold PySem.W.clsIn at hc
    split at hc
    · rename_i c' d' cd' sl' ho
      exact ⟨c', d', cd', sl', ho⟩
    · cases hc
  obtain ⟨c', d', cd', sl', ho⟩ := cls
  constructor
  · exact fun _ _ _ I => I.type
  · intro M h X _ A' Q' E' s' k q
    unfold isType loadHead
    exact wpAny_bind (wpAny_loadPart (k _ _ (X _ _ ho)) (wpAny_pure q))
  · intro h tp dd its n sl X htp
    cases e : (Value.ref D == Value.ref tp) with
    | false => rfl
    | true =>
      have e2 : D = tp := Value.ref.inj (beq_iff_eq.mp e)
      subst e2
      cases (X _ _ ho).symm.trans htp
  · exact fun X I k => kin_cls C (find_cls C od) X I k
/-- at a stands an exception of the class at C, with or without a dict -/
def AnyErr (H : Hp) (a C : Addr) : Prop := H a = some (exo a C none) ∨ ∃ d fs, H a = some (exo a C (some d)) ∧ H d = some (exd d fs)
theorem ErrAt.any {H : Hp} {a C : Addr} {v : V} (h : ErrAt H a C v) : AnyErr H a C := .inr (by obtain ⟨d, h1, h2⟩ := h; exact ⟨d, _, h1, h2⟩)
section
variable {X : Cx} {pins : List (Addr × Obj)} {σ : L2.St} {H : Hp} {s : Shared}
theorem inst_err {a C : Addr} (I : Inv X pins σ H s) (h : AnyErr H a C) : ∃ ox od, PySem.W.InstAt s.heap a ox C od ∧ (∀ d fs, H a = some (exo a C (some d)) → H d = some (exd d fs) → ∃ o mA, od = some o ∧ s.heap.Ns1 d mA ∧ (∀ f, RelO (fs.lookup f) (mA f)) ∧ s.heap.get? d = some o) := by
  rcases h with h | ⟨d, fs, h1, h2⟩
  · obtain ⟨t1, g⟩ := exo_at I.hok h
    refine ⟨_, none, ⟨g, rfl, rfl, trivial⟩, fun d fs e _ => ?_⟩
    have z : exo a C none = exo a C (some d) := Option.some.inj (h.symm.trans e)
    have z1 : (HO.ext _) = HO.ext _ := z
    have z2 := congrFun (HO.ext.inj z1) s.heap
    have z3 : (∃ t1 : Addr, s.heap.get? a = some ({ cls := .ref C, dict := some d, data := .fields #[.ref t1, .none, .none, .none, .bool false, .none] } : Obj)) := z2.mp ⟨t1, g⟩
    obtain ⟨t2, g2⟩ := z3
    rw [g] at g2
    cases g2
  · obtain ⟨t1, g⟩ := exo_at I.hok h1
    obtain ⟨mA, hns, rel⟩ := exd_at I.hok h2
    obtain ⟨od, ho, hl⟩ := lookIn_ns hns
    refine ⟨_, some od, ⟨g, rfl, rfl, ho⟩, fun d' fs' e e2 => ?_⟩
    have z : exo a C (some d) = exo a C (some d') := Option.some.inj (h1.symm.trans e)
    have z1 : (HO.ext _) = HO.ext _ := z
    have z2 := congrFun (HO.ext.inj z1) s.heap
    have z3 : (∃ t1 : Addr, s.heap.get? a = some ({ cls := .ref C, dict := some d', data := .fields #[.ref t1, .none, .none, .none, .bool false, .none] } : Obj)) := z2.mp ⟨t1, g⟩
    obtain ⟨t2, g2⟩ := z3
    rw [g] at g2
    cases g2
    obtain ⟨mA', hns', rel'⟩ := exd_at I.hok e2
    exact ⟨od, mA', rfl, hns', rel', ho⟩
/-- isinstance(e, c), e such an exception -/
def rIsX (K : PySem.W.Frag) : List V → Hp → VK → Prop := fun xs H Q => ∃ (a C : Addr) (c : V) (u : Value) (b : Bool), xs = [.ref a, c] ∧ AnyErr H a C ∧ ExcC K C ∧ ClsV c u ∧ PySem.W.kitOne K (.ref C) u = some b ∧ Q (.bl b) H
theorem call_isX : CallR X (.builtin "isinstance") (rIsX X.K) := by
  intro pins s σ H xs us Q I r h
  obtain ⟨a, C, c, u, b, rfl, he, hC, hc, hk, q⟩ := h
  obtain ⟨u1, u2, rfl, r1, r2⟩ := vals2 r
  cases (show u1 = Value.ref a from r1)
  have e2 := hc.eq r2
  subst e2
  obtain ⟨ox, od, J, _⟩ := inst_err I he
  exact PySem.W.kia_one (kit_exc hC) I.kIn J hk (fun z => nomatch z) fun tk => ⟨.bl b, H, I.tok tk, rfl, q⟩
/-- both: data and such exceptions -/
theorem call_is2 : CallR X (.builtin "isinstance") (fun xs H Q => rIsX X.K xs H Q ∨ rIsi X.K xs H Q) := by
  intro pins s σ H xs us Q I r h
  rcases h with h | h
  · exact call_isX pins s σ H xs us Q I r h
  · exact call_isi pins s σ H xs us Q I r h
/-! ### e.value -/
def tVal (K : PySem.W.Frag) (te : TE) : TE := fun σ H Q => te σ H fun x H1 => ∃ (a C fI : Addr) (v : V), x = .ref a ∧ ErrAt H1 a C v ∧ EC K C fI ∧ Q v H1
theorem pe_val {e : Expr} {te : TE} {pos : Pos} (he : PE X e te) (hb : attributeBase e "value" X.env (eval e X.env) = eval e X.env := by rfl) : PE X (.Attribute e "value" pos) (tVal X.K te) := by
  constructor
  intro pins s σ H Q I h
  refine attr_of hb (thn (he.run pins s σ H _ I h) fun u s1 hh => ?_)
  obtain ⟨x, H1, I1, rx, a, C, fI, v, ex, ⟨d, ha, hd⟩, T, q⟩ := hh
  subst ex
  cases (show u = Value.ref a from rx)
  obtain ⟨ox, od, J, z⟩ := inst_err I1 (.inr ⟨d, _, ha, hd⟩)
  obtain ⟨o, mA, rfl, hns, rel, ho⟩ := z d _ ha hd
  have l : List.lookup ("value" : Str) [(("value" : Str), v)] = some v := by simp [List.lookup]
  obtain ⟨u2, hu, ru⟩ := RelO.some_of (v := v) (o := mA "value") (by rw [← l]; exact rel "value")
  obtain ⟨od2, ho2, hl⟩ := lookIn_ns hns
  have eo : o = od2 := by
    rw [ho] at ho2
    exact Option.some.inj ho2
  subst eo
  exact PySem.HandSPX.exc_get I1.kIn J T.x.hg T.x.hk T.x.hs (PySem.W.findObj_own T.x.hd T.nv rfl (by rw [hl, hu])) (handed_of ru) ⟨v, H1, I1.tok _, ru, q⟩
end
end G1

set_option maxHeartbeats 4000000
namespace G1
open PySem PySem.Spec PyProof.Rows L2
/-! ### powers of any base -/
def CPowW (i j : Int) : Prop := 0 ≤ j ∧ (Builtin.Int.intBits i : Int) * j ≤ 2 ^ 27
/-! ### repr of data: lists, tuples, texts, small numbers, the empty dict -/
/-- what stands at a value, as data; beside Dp the empty dict -/
inductive Rp (K : PySem.W.Frag) (H : Hp) : V → PyData → Prop
  | dp {v : V} {d : PyData} : Dp K H v d → Rp K H v d
  | dct {a : Addr} : H a = some (.dK []) → Rp K H (.ref a) (.dict [])
section
variable {X : Cx}
theorem op_powW : OpR X (binaryOp .Pow) (rI CPowW fun i j => .int (i ^ j.toNat)) := opI fun _ _ _ _ _ _ _ hc q => pow_int hc.1 hc.2 q
theorem rp_reads {pins : List (Addr × Obj)} {σ : L2.St} {H : Hp} {s : Shared} (I : Inv X pins σ H s) {v : V} {u : Value} {d : PyData} (h : Rp X.K H v d) (r : RelV v u) (hs : d.hasDict = false ∨ d = .dict []) :
    ∃ as, Reads s.heap u d as ∧ (d.hasDict = true → sysModules ∉ as) := by
  cases h with
  | dp h =>
    obtain ⟨as, q⟩ := Dp.reads I d v u h r
    refine ⟨as, q, fun z => ?_⟩
    rcases hs with hs | hs
    · rw [hs] at z
      cases z
    · subst hs
      cases h
  | @dct a e =>
    cases (show u = Value.ref a from r)
    obtain ⟨_, hsys, vs, kv, o, es, ep, h1, h2, h3, _, h5, _⟩ := (show ObjOk X.prog X.w H s.heap a (.dK []) from I.hok a _ e)
    have e0 : vs = [] := by
      cases kv
      rfl
    subst e0
    have e1 : es.toList = [] := by
      cases h5' : es.toList with
      | nil => rfl
      | cons x l =>
        rw [h5'] at h5
        cases h5
    refine ⟨[a], ?_, fun _ z => ?_⟩
    · have R := Reads.dict (h := s.heap) (a := a) (kvs := []) (as := []) (bs := []) h1 h2.1 h3 (by rw [e1]; exact .nil) (by rw [e1]; exact .nil)
      exact R
    · have ea : sysModules = a := List.mem_singleton.mp z
      rw [← ea] at hsys
      simp at hsys
def rRepr (K : PySem.W.Frag) : List V → Hp → VK → Prop := fun xs H Q => ∃ (v : V) (d : PyData), xs = [v] ∧ Rp K H v d ∧ (d.hasDict = false ∨ d = .dict []) ∧ d.showable = true ∧ d.depth ≤ 60 ∧ d.shown.length ≤ sizeLine ∧ Q (.str d.shown) H
theorem call_repr (hgd : Gd X.A) (hu : X.A.units + 64 < cLine) : CallR X (.builtin "repr") (rRepr X.K) := by
  intro pins s σ H xs us Q I r h
  obtain ⟨v, d, rfl, hr, hs, hsh, hdp, hl, q⟩ := h
  obtain ⟨u, rfl, ru⟩ := vals1 r
  have fin : ∀ (h' : Heap) (t : Tok) (tk : Nat), (∀ b o, s.heap.get? b = some o → h'.get? b = some o) → EP X pins σ Q (.str d.shown t) { s with heap := h', toks := tk } :=
    fun h' t tk k => ⟨.str d.shown, H, I.kept k, ⟨t, rfl⟩, q⟩
  have fin0 : ∀ (t : Tok), EP X pins σ Q (.str d.shown t) { s with toks := s.toks + 1 } := fun t => fin s.heap t _ fun _ _ e => e
  obtain ⟨as, hR, hsm⟩ := rp_reads I hr ru hs
  cases hR with
  | none => exact PySem.P.repr_of_none (fin0 _)
  | bool b => exact PySem.P.repr_of_bool (fin0 _)
  | int i t => exact PySem.P.repr_of_int (by simpa [PyData.showable] using hsh) (fin0 _)
  | str x t => exact PySem.P.repr_of_str (fin0 _) hl
  | list h1 h2 h3 h4 => exact repr_of_reads' (.list h1 h2 h3 h4) hsh hsm hgd (by omega) (fun _ _ e => e) (fun h' u tk k => fin h' u tk k) hl
  | tuple h1 h2 h3 h4 => exact repr_of_reads' (.tuple h1 h2 h3 h4) hsh hsm hgd (by omega) (fun _ _ e => e) (fun h' u tk k => fin h' u tk k) hl
  | dict h1 h2 h3 h4 h5 => exact repr_of_reads' (.dict h1 h2 h3 h4 h5) hsh hsm hgd (by omega) (fun _ _ e => e) (fun h' u tk k => fin h' u tk k) hl
end
end G1

set_option maxHeartbeats 4000000
namespace G1
open PySem PySem.Spec PyProof.Rows L2
section
variable {X : Cx}
/-- C(), C an own exception class without an own __init__ -/
def tMkN (C : Addr) : TE := fun _ H Q => ∀ a, H a = none → Q (.ref a) (upd H a (exo a C none))
theorem pe_mkN {C : Addr} {x : Str} {p pos : Pos} (q : PySem.W.excIn X.K C He.veBase "ValueError.__new__" = true) (kC : PySem.W.keepIn X.K (.ref C) = true) (hg : Gl X x) (gC : X.mg x = some (.ref C))
    (hdb : (x == ("__debug__" : Str)) = false := by decide) : PE X (.Call (.Name x p) [] [] pos) (tMkN C) := by
  constructor
  intro pins s σ H Q I h
  apply wpAny_Call_Name_kw (ld_glob I hg gC ?_ hdb)
  refine PySem.W.callWith_K0 I.kIn kC ?_
  obtain ⟨bm, N, nm, qn, bs, hdct, sn, sub, ab, col, dd, k0, k1, k2, k3, k5, mN, hC, hN, hni, T⟩ := exc_obj I.kIn q
  refine wpAny_call_exc_subT F.excBase_ValueError T hC hN hni (fun h' a hm => ?_) (by show 0 ≤ sizeLine; exact Nat.zero_le _)
  have hn : H a = none := I.hok.gone hm.new
  obtain ⟨t, ht, _, _⟩ := hm.there
  exact ⟨.ref a, upd H a (exo a C none), I.laidN hm.keeps hm.new hn (exo_ok ht), rfl, h a hn⟩
end
end G1

set_option maxHeartbeats 4000000
namespace K01
open PySem PySem.Spec PyProof.Rows L2 G1
def top (i : Nat) : Stmt := PySem.Challenge.pw_cardpanel_k01_errors_made.main.body.getD i (.Pass ⟨0, 0, 0, 0⟩)
abbrev FnP (K : PySem.W.Frag) (x : Str) (st : Stmt) (f : Addr) (fd : FuncData) : Prop := FunD K x x (defArgs st) (defBody st) (defScope st) [] [] f fd
theorem okN {P : Program} {w : World} {K : PySem.W.Frag} {mg : Str → Option Value} {base : Heap} {x qual : Str} {params : Arguments} {body : List Stmt} {scope : Scope} {dvs : List V} {kws : List (Str × V)} {f : Addr} {fd : FuncData}
    {N ps : List Str} {k : Nat} {sp : Sp} (F : FunD K x qual params body scope dvs kws f fd) (S : FnScope N ps scope) (len : ∀ vs H Q E, sp vs H Q E → vs.length = ps.length)
    (hb : ∀ (cdv : Value) (A : Around) (outer : List Env) (s : Shared) (H : Hp) (vs : List V) (Q : VK) (E : XK), Room k (A.deeper (envOfC qual scope s.heap.objs.size f cdv)) → sp vs H Q E →
      ∃ t, PSs (cxOf CX0 P w K mg base N qual scope f cdv A outer s H E).nox body t ∧ t { nx := fun _ H' => Q .non H', rt := Q } (start N vs) H) : FnOk P w K mg base CX0 (k + 1) f fd ps sp :=
  F.ok S len fun cdv A outer s H vs Q E hr h => by
    obtain ⟨t, h1, h2⟩ := hb cdv A outer s H vs Q E hr h
    exact ⟨t, h1.nox, h2⟩
theorem gdN {P : Program} {w : World} {K : PySem.W.Frag} {mg : Str → Option Value} {base : Heap} {x qual : Str} {params : Arguments} {body : List Stmt} {scope : Scope} {dvs : List V} {kws : List (Str × V)} {f : Addr} {fd : FuncData}
    {N ps : List Str} {k : Nat} {sp : Sp} (F : FunD K x qual params body scope dvs kws f fd) (S : FnScope N ps scope) (len : ∀ vs H Q E, sp vs H Q E → vs.length = ps.length)
    (hb : ∀ (cdv : Value) (A : Around) (outer : List Env) (s : Shared) (H : Hp) (vs : List V) (Q : VK) (E : XK), Gd A → Room k (A.deeper (envOfC qual scope s.heap.objs.size f cdv)) → sp vs H Q E →
      ∃ t, PSs (cxOf CX0 P w K mg base N qual scope f cdv A outer s H E).nox body t ∧ t { nx := fun _ H' => Q .non H', rt := Q } (start N vs) H) : FnG P w K mg base (k + 1) f fd ps sp := by
  obtain ⟨oc, od, dV, kV, doc, pm, an, cdv, ct, osl, rfl, lk, hcd, _, _⟩ := F.ex
  refine FnG.body lk hcd S len fun A outer s H vs Q E hg hr h => ?_
  obtain ⟨t, h1, h2⟩ := hb cdv A outer s H vs Q E hg hr h
  exact ⟨t, h1.nox, h2⟩
/-! ### purses -/
def PurseL (xs : List V) (c : Nat) : Prop := ∃ v s t a : Int, xs = [.int v, .int s, .int t, .int a] ∧ 0 ≤ s ∧ s < 2147483648 ∧ 0 ≤ t ∧ t ≤ c ∧ 0 ≤ a ∧ a ≤ 1000
def Purse (H : Hp) (p : Addr) (c : Nat) : Prop := ∃ xs, H p = some (.lst xs) ∧ PurseL xs c
def But (p : Addr) (H H' : Hp) : Prop := ∀ b o, b ≠ p → H b = some o → H' b = some o
theorem PurseL.mono {xs : List V} {c d : Nat} (h : PurseL xs c) (l : c ≤ d) : PurseL xs d := by
  obtain ⟨v, s, t, a, e, h1, h2, h3, h4, h5⟩ := h
  exact ⟨v, s, t, a, e, h1, h2, h3, by omega, h5⟩
theorem Purse.mono {H : Hp} {p : Addr} {c d : Nat} (h : Purse H p c) (l : c ≤ d) : Purse H p d := by
  obtain ⟨xs, e, q⟩ := h
  exact ⟨xs, e, q.mono l⟩
theorem But.refl (p : Addr) (H : Hp) : But p H H := fun _ _ _ e => e
theorem But.trans {p : Addr} {H H1 H2 : Hp} (a : But p H H1) (b : But p H1 H2) : But p H H2 := fun c o n e => b c o n (a c o n e)
theorem But.upd {p : Addr} {H : Hp} {o : HO} : But p H (upd H p o) := fun b u n e => by
  rw [upd_ne n]
  exact e
theorem But.same {p : Addr} {H H' : Hp} (s : Same H H') : But p H H' := fun b o _ e => s b o e
theorem Purse.but {H H' : Hp} {p q : Addr} {c : Nat} (h : Purse H q c) (b : But p H H') (n : q ≠ p) : Purse H' q c := by
  obtain ⟨xs, e, z⟩ := h
  exact ⟨xs, b _ _ n e, z⟩
theorem Purse.same {H H' : Hp} {p : Addr} {c : Nat} (h : Purse H p c) (s : Same H H') : Purse H' p c := by
  obtain ⟨xs, e, z⟩ := h
  exact ⟨xs, s _ _ e, z⟩
/-! ### promises -/
def spMixed : Sp := fun vs H Q _ => ∃ s t a : Int, vs = [.int s, .int t, .int a] ∧ 0 ≤ s ∧ s < 2147483648 ∧ 0 ≤ t ∧ t < 2 ^ 40 ∧ 0 ≤ a ∧ a ≤ 1000 ∧ ∀ r : Int, Q (.int r) H
def spDraw : Sp := fun vs H Q _ => ∃ (p : Addr) (m : Int) (c : Nat), vs = [.ref p, .int m] ∧ 0 < m ∧ m < 1073741824 ∧ Purse H p c ∧ c ≤ 1000000 ∧
  ∀ (r : Int) (H' : Hp), 0 ≤ r → r < m → Purse H' p (c + 3) → But p H H' → Q (.int r) H'
section
variable {P : Program} {w : World} {K : PySem.W.Frag} {mg : Str → Option Value} {base : Heap}
abbrev sMixed : Stmt := top 31
theorem scMixed : FnScope ["_law_seed", "_law_turn", "_law_at", "_law_mixed_here"] ["_law_seed", "_law_turn", "_law_at"] (defScope sMixed) := ⟨rfl, rfl, rfl, by decide +kernel, rfl, by decide +kernel, by decide +kernel⟩
theorem ok_mixed {f : Addr} {fd : FuncData} (F : FnP K "_law_mixed" sMixed f fd) : FnOk P w K mg base CX0 1 f fd ["_law_seed", "_law_turn", "_law_at"] spMixed := by
  refine okN F scMixed (fun vs H Q E h => ?_) (fun cdv A outer s H vs Q E hr h => ?_)
  · obtain ⟨_, _, _, rfl, _⟩ := h
    rfl
  · obtain ⟨sd, t, a, rfl, h1, h2, h3, h4, h5, h6, k⟩ := h
    refine ⟨_, pss_cons (ps_set (i := 3) scMixed.nd rfl (Or.inl rfl) (pe_op op_add (pe_op op_mul (pv 0) pe_int) (pe_op op_mul (pe_op op_mul pe_int (pv 1)) (pv 1))))
      (pss_cons (ps_set (i := 3) scMixed.nd rfl (Or.inl rfl) (pe_op op_mod (pe_op op_add (pe_op op_add (pv 3) (pe_op op_mul pe_int (pv 2))) (pv 1)) pe_int))
      (pss_cons (ps_set (i := 3) scMixed.nd rfl (Or.inl rfl) (pe_op op_mod (pe_op op_add (pe_op op_mul (pv 3) (pv 3)) pe_int) pe_int))
      (pss_one (ps_ret (pe_op op_mod (pe_op op_mul (pv 3) pe_int) pe_int))))), ?_⟩
    refine ⟨_, rfl, _, _, rfl, rfl, .inl ⟨by omega, by omega⟩, _, rfl, _, _, rfl, rfl, .inl ⟨by decide, by decide⟩, _, rfl, _, _, rfl, rfl, .inr ⟨by omega, by omega⟩, _, _, rfl, rfl, ?_⟩
    refine ⟨_, rfl, _, rfl, _, _, rfl, rfl, .inl ⟨by decide, by decide⟩, _, _, rfl, rfl, _, rfl, _, _, rfl, rfl, _, _, rfl, rfl, (by show (0 : Int) < 2147483647; decide), ?_⟩
    generalize hm : (sd * 69069 + 104729 * t * t + 7919 * a + t) % 2147483647 = m
    have m0 : 0 ≤ m := by rw [← hm]; exact Int.emod_nonneg _ (by decide)
    have m1 : m < 2147483647 := by rw [← hm]; exact Int.emod_lt_of_pos _ (by decide)
    refine ⟨_, rfl, _, rfl, _, _, rfl, rfl, .inl ⟨by omega, by omega⟩, _, _, rfl, rfl, _, _, rfl, rfl, (by show (0 : Int) < 2147483629; decide), ?_⟩
    refine ⟨_, rfl, _, _, rfl, rfl, .inr ⟨by decide, by decide⟩, _, _, rfl, rfl, (by show (0 : Int) < 2147483587; decide), ?_⟩
    exact k _
end
end K01

set_option maxHeartbeats 4000000
namespace K01
open PySem PySem.Spec PyProof.Rows L2 G1
structure Lib (K : PySem.W.Frag) (mg : Str → Option Value) : Prop where
  sum : mg "sum" = none
  max : mg "max" = none
  min : mg "min" = none
  len : mg "len" = none
  range : mg "range" = none
section
variable {P : Program} {w : World} {K : PySem.W.Frag} {mg : Str → Option Value} {base : Heap}
abbrev sDraw : Stmt := top 32
theorem scDraw : FnScope ["_law_purse_here", "_law_many", "_law_drawn", "_law_found", "_law_piece"] ["_law_purse_here", "_law_many"] (defScope sDraw) := ⟨rfl, rfl, rfl, by decide +kernel, rfl, by decide +kernel, by decide +kernel⟩
theorem ok_draw {f fM : Addr} {fd fdM : FuncData} (F : FnP K "_law_draw" sDraw f fd) (L : Lib K mg) (FM : FnP K "_law_mixed" sMixed fM fdM) (gM : mg "_law_mixed" = some (.ref fM)) :
    FnOk P w K mg base CX0 2 f fd ["_law_purse_here", "_law_many"] spDraw := by
  have GM : FnOk P w K mg base CX0 1 fM fdM ["_law_seed", "_law_turn", "_law_at"] spMixed := ok_mixed FM
  have bM : Binds K fdM ["_law_seed", "_law_turn", "_law_at"] [] := FM.bindsN fun _ _ _ _ _ _ us hl => match us, hl with | [_, _, _], _ => rfl
  refine okN F scDraw (fun vs H Q E h => ?_) (fun cdv A outer s H vs Q E hr h => ?_)
  · obtain ⟨_, _, _, rfl, _⟩ := h
    rfl
  · obtain ⟨p, m, c, rfl, m0, m1, ⟨xs, hp, v, sd, t, a, rfl, h1, h2, h3, h4, h5, h6⟩, hc, k⟩ := h
    refine ⟨_, pss_cons (ps_if (pt_cmpR op_gt (pe_ix ix_list (pv 0) pe_int (fun _ _ => rfl)) pe_int (nomark _))
        (pss_cons (ps_set (i := 2) scDraw.nd rfl (Or.inl rfl) (pe_op op_mod (pe_ix ix_list (pv 0) pe_int (fun _ _ => rfl)) (pv 1)))
        (pss_cons (ps_asg (pe_op op_fdiv (pe_ix ix_list (pv 0) pe_int (fun _ _ => rfl)) (pv 1)) (pg_sub (pv 0) pe_int set_list))
        (pss_one (ps_ret (pv 2))))) pss_nil)
      (pss_cons (ps_set (i := 3) scDraw.nd rfl (Or.inl rfl) pe_int)
      (pss_cons (ps_for PassesOwn.never rfl (pi_range1 rfl L.range (pa_cons (pe_op op_add pe_int (pe_op op_fdiv (pe_bits (pv 1)) pe_int)) pa_nil)) (pg_name (i := 4) scDraw.nd rfl (Or.inl rfl))
        (pss_cons (ps_asg (pe_op op_add (pe_ix ix_list (pv 0) pe_int (fun _ _ => rfl)) pe_int) (pg_sub (pv 0) pe_int set_list))
        (pss_one (ps_set (i := 3) scDraw.nd rfl (Or.inl rfl) (pe_op op_add (pe_op op_mul (pv 3) pe_int)
          (pe_call GM hr rfl gM FM.kp bM .nil pass0 (pa_cons (pe_ix ix_list (pv 0) pe_int (fun _ _ => rfl)) (pa_cons (pe_ix ix_list (pv 0) pe_int (fun _ _ => rfl)) (pa_cons (pe_ix ix_list (pv 0) pe_int (fun _ _ => rfl)) pa_nil)))))))))
      (pss_one (ps_ret (pe_op op_mod (pv 3) (pv 1)))))), ?_⟩
    have at0 : ∀ {x y z u : V}, atI [x, y, z, u] 0 = some x := rfl
    have at1 : ∀ {x y z u : V}, atI [x, y, z, u] 1 = some y := rfl
    have at2 : ∀ {x y z u : V}, atI [x, y, z, u] 2 = some z := rfl
    have at3 : ∀ {x y z u : V}, atI [x, y, z, u] 3 = some u := rfl
    refine ⟨_, rfl, p, _, _, _, rfl, rfl, SqL.of hp, at0, _, _, rfl, rfl, _, rfl, ?_⟩
    refine ite2 (fun _ => ?_) (fun _ => ?_)
    · refine ⟨_, rfl, p, _, _, _, rfl, rfl, SqL.of hp, at0, _, rfl, _, _, rfl, rfl, m0, ?_⟩
      refine ⟨_, rfl, p, _, _, _, rfl, rfl, SqL.of hp, at0, _, rfl, _, _, rfl, rfl, ⟨m0, m1⟩, ?_⟩
      refine ⟨_, rfl, p, _, _, 0, rfl, rfl, hp, rfl, ?_⟩
      refine ⟨_, rfl, ?_⟩
      exact k _ _ (Int.emod_nonneg _ (by omega)) (Int.emod_lt_of_pos _ m0) ⟨_, upd_same, v / m, sd, t, a, rfl, h1, h2, h3, by omega, h5, h6⟩ But.upd
    · have hb : Builtin.Int.intBits m ≤ 64 := intBits_le_64 (by omega) (by omega)
      have e28 : ((Builtin.Int.intBits m : Nat) : Int) / 28 ≤ 2 := by omega
      have n28 : 0 ≤ ((Builtin.Int.intBits m : Nat) : Int) / 28 := by omega
      refine ⟨_, rfl, m, rfl, _, _, rfl, rfl, ⟨by decide, by decide⟩, _, _, rfl, rfl, _, rfl, by omega, by omega, ?_⟩
      generalize hn : (1 + ((Builtin.Int.intBits m : Nat) : Int) / 28).toNat = n
      have n3 : n ≤ 3 := by omega
      refine for_range (lo := 0) (n := n) (fun i σ H' => ∃ (r : Int) (o : Option V), σ = [some (.ref p), some (.int m), none, some (.int r), o] ∧ But p H H' ∧ ∃ t' : Int, H' p = some (.lst [.int v, .int sd, .int t', .int a]) ∧ 0 ≤ t' ∧ t' ≤ (c : Int) + i)
        ⟨0, none, rfl, But.refl _ _, t, hp, h3, by omega⟩ ?_ ?_
      · rintro i σ H' hi ⟨r, o, rfl, hb', t', hp', u1, u2⟩
        refine ⟨_, rfl, p, _, _, _, rfl, rfl, SqL.of hp', at2, _, _, rfl, rfl, _, rfl, p, _, _, 2, rfl, rfl, hp', rfl, ?_⟩
        have hp2 : upd H' p (.lst [.int v, .int sd, .int (t' + 1), .int a]) p = some (.lst [.int v, .int sd, .int (t' + 1), .int a]) := upd_same
        refine ⟨_, rfl, _, _, rfl, rfl, .inr ⟨by decide, by decide⟩, _, rfl, p, _, _, _, rfl, rfl, SqL.of hp2, at1, _, rfl, p, _, _, _, rfl, rfl, SqL.of hp2, at2, _, rfl, p, _, _, _, rfl, rfl, SqL.of hp2, at3, ?_⟩
        refine ⟨sd, t' + 1, a, rfl, h1, h2, by omega, by omega, h5, h6, fun q => ?_⟩
        refine ⟨_, _, rfl, rfl, ?_⟩
        exact ⟨_, _, rfl, hb'.trans But.upd, t' + 1, hp2, by omega, by omega⟩
      · rintro σ H' ⟨r, o, rfl, hb', t', hp', u1, u2⟩
        refine ⟨_, rfl, _, rfl, _, _, rfl, rfl, m0, ?_⟩
        exact k _ _ (Int.emod_nonneg _ (by omega)) (Int.emod_lt_of_pos _ m0) ⟨_, hp', v, sd, t', a, rfl, h1, h2, u1, by omega, h5, h6⟩ hb'
end
end K01

set_option maxHeartbeats 4000000
namespace K01
open PySem PySem.Spec PyProof.Rows L2 G1
def spPurse (K : PySem.W.Frag) : Sp := fun vs H Q _ => ∃ (a : Addr) (i : Int) (ns : List Int), vs = [.ref a, .int i] ∧ SqL K H a (ns.map V.int) ∧ 0 ≤ i ∧ i ≤ 1000 ∧
  ∀ (p : Addr) (H' : Hp), H p = none → Purse H' p 0 → Same H H' → Q (.ref p) H'
def spPurses (K : PySem.W.Frag) : Sp := fun vs H Q _ => ∃ (a : Addr) (few : Int) (ns : List Int), vs = [.ref a, .int few] ∧ SqL K H a (ns.map V.int) ∧ few ≤ 100 ∧
  ∀ (D : Addr) (ps : List Addr) (H' : Hp), H D = none → H' D = some (.lst (ps.map V.ref)) → (∀ p ∈ ps, Purse H' p 0 ∧ p ≠ D) → ps.length ≤ 100 → Same H H' → Q (.ref D) H'
theorem cut_ints (ns : List Int) (lo hi : Option Int) : ∃ zs : List Int, cutV (ns.map V.int) lo hi = zs.map V.int := by
  unfold cutV
  rw [← List.map_drop, ← List.map_take]
  exact ⟨_, rfl⟩
section
variable {P : Program} {w : World} {K : PySem.W.Frag} {mg : Str → Option Value} {base : Heap}
abbrev sPurse : Stmt := top 30
theorem scPurse : FnScope ["_law_script", "_law_at", "_law_seed"] ["_law_script", "_law_at"] (defScope sPurse) := ⟨rfl, rfl, rfl, by decide +kernel, rfl, by decide +kernel, by decide +kernel⟩
theorem ok_purse {f : Addr} {fd : FuncData} (F : FnP K "_law_purse" sPurse f fd) (L : Lib K mg) : FnOk P w K mg base CX0 1 f fd ["_law_script", "_law_at"] (spPurse K) := by
  refine okN F scPurse (fun vs H Q E h => ?_) (fun cdv A outer s H vs Q E hr h => ?_)
  · obtain ⟨_, _, _, rfl, _⟩ := h
    rfl
  · obtain ⟨a, i, ns, rfl, hS, i0, i1, k⟩ := h
    refine ⟨_, pss_cons (ps_set (i := 2) scPurse.nd rfl (Or.inl rfl) (pe_callB (cr_sum rfl) (by rfl) L.sum (by decide +kernel) (pa_cons (pe_slice sl_list (pv 0) (po_some (pv 1)) (po_some (pe_op op_add (pv 1) pe_int))) pa_nil)))
      (pss_one (ps_ret (pe_lst (pa_cons (pe_op op_mod (pe_callB (call_max2 rfl) (by rfl) L.max (by decide +kernel) (pa_cons (pe_op op_sub (pv 2) (pe_op op_pow pe_int pe_int)) (pa_cons pe_int pa_nil))) (pe_op op_powW (pe_op op_pow pe_int pe_int) pe_int))
        (pa_cons (pe_op op_mod (pv 2) pe_int) (pa_cons pe_int (pa_cons (pv 1) pa_nil))))))), ?_⟩
    refine ⟨_, rfl, _, rfl, _, rfl, _, rfl, _, _, rfl, rfl, _, rfl, a, _, rfl, hS, fun l nl => ?_⟩
    obtain ⟨zs, ez⟩ := cut_ints ns (some i) (some (i + 1))
    refine ⟨l, zs, rfl, SqL.of (upd_same.trans (congrArg (fun x => some (HO.lst x)) ez)), ?_⟩
    refine ⟨_, rfl, _, _, rfl, rfl, ⟨by decide, by decide, by decide⟩, _, _, rfl, rfl, _, _, rfl, ?_⟩
    refine ⟨_, _, rfl, rfl, ⟨by decide, by decide, by decide⟩, _, _, rfl, rfl, ⟨by decide, by decide +kernel⟩, _, _, rfl, rfl, (by show (0 : Int) < (10 ^ (60 : Int).toNat) ^ (8 : Int).toNat; decide +kernel), ?_⟩
    refine ⟨_, rfl, _, _, rfl, rfl, (by show (0 : Int) < 2147483629; decide), _, rfl, (by show 4 ≤ sizeLine; decide), fun p np => ?_⟩
    have n0 : (upd H l (.lst (cutV (ns.map V.int) (some i) (some (i + 1))))) p = none := np
    have npl : p ≠ l := fun q => by
      rw [q, upd_same] at n0
      cases n0
    have hpn : H p = none := by
      rw [upd_ne npl] at n0
      exact n0
    refine k p _ hpn ⟨_, upd_same, _, zs.sum % 2147483629, 0, i, rfl, Int.emod_nonneg _ (by decide), Int.lt_trans (Int.emod_lt_of_pos _ (by decide)) (by decide), by omega, by omega, i0, i1⟩ fun b o e => ?_
    rw [upd_ne (ne_of_none e hpn), upd_ne (ne_of_none e nl)]
    exact e
abbrev sPurses : Stmt := top 33
theorem scPurses : FnScope ["_law_script", "_law_few", "_law_at"] ["_law_script", "_law_few"] (defScope sPurses) := ⟨rfl, rfl, rfl, by decide +kernel, rfl, by decide +kernel, by decide +kernel⟩
theorem ok_purses {f fP : Addr} {fd fdP : FuncData} (F : FnP K "_law_purses" sPurses f fd) (L : Lib K mg) (FP : FnP K "_law_purse" sPurse fP fdP) (gP : mg "_law_purse" = some (.ref fP)) :
    FnOk P w K mg base CX0 2 f fd ["_law_script", "_law_few"] (spPurses K) := by
  have GP : FnOk P w K mg base CX0 1 fP fdP ["_law_script", "_law_at"] (spPurse K) := ok_purse FP L
  have bP : Binds K fdP ["_law_script", "_law_at"] [] := FP.bindsN fun _ _ _ _ _ _ us hl => match us, hl with | [_, _], _ => rfl
  refine okN F scPurses (fun vs H Q E h => ?_) (fun cdv A outer s H vs Q E hr h => ?_)
  · obtain ⟨_, _, _, rfl, _⟩ := h
    rfl
  · obtain ⟨a, few, ns, rfl, hS, f1, k⟩ := h
    refine ⟨_, pss_one (ps_ret (pe_lc (own := [("_law_at", 2)]) (g := gName 2) (tt := tYes) rfl scPurses.nd
      (pi_range1 rfl L.range (pa_cons (pe_callB (call_max2 rfl) (by rfl) L.max (by decide +kernel) (pa_cons pe_int (pa_cons (pe_callB (call_min2 rfl) (by rfl) L.min (by decide +kernel) (pa_cons (pv 1) (pa_cons (pe_callB call_len_seq (by rfl) L.len PySem.boot_len (pa_cons (pv 0) pa_nil)) pa_nil))) pa_nil))) pa_nil))
      (blkOk_by (N := ["_law_script", "_law_few", "_law_at"]) (sc := defScope sPurses) (by decide +kernel)) (fun _ _ _ _ _ => pg_name (i := 2) scPurses.nd rfl (Or.inl rfl)) (fun _ _ _ _ _ => pts_nil)
      (fun _ _ _ _ _ => pe_call GP hr rfl gP FP.kp bP .nil pass0 (pa_cons (pv 0) (pa_cons (pv 2) pa_nil))))), ?_⟩
    refine ⟨_, rfl, _, rfl, a, _, rfl, .inl hS, _, _, rfl, _, _, rfl, ?_⟩
    generalize hj : (if (if ((ns.map V.int).length : Int) < few then ((ns.map V.int).length : Int) else few) > 1 then (if ((ns.map V.int).length : Int) < few then ((ns.map V.int).length : Int) else few) else (1 : Int)) = j
    have j1 : j ≤ 100 := by
      rw [← hj]
      split <;> (try split) <;> omega
    have j0 : 1 ≤ j := by
      rw [← hj]
      split <;> (try split) <;> omega
    refine ⟨j, rfl, by omega, by omega, fun D hD => lc_range (lo := 0) (n := j.toNat) (fun i H' => ∃ ps : List Addr, ps.length = i ∧ H' D = some (.lst (ps.map V.ref)) ∧ (∀ p ∈ ps, Purse H' p 0 ∧ p ≠ D) ∧ Same H H')
      ⟨[], rfl, upd_same, (fun p hp => nomatch hp), fun b o e => by rw [upd_ne (ne_of_none e hD)]; exact e⟩ ?_ ?_⟩
    · rintro i H' hi ⟨ps, hl, hD', hps, sm⟩
      have hi2 : i ≤ 100 := by omega
      refine ⟨rfl, _, rfl, _, rfl, a, (0 : Int) + (i : Int), ns, rfl, sm.seq hS, by omega, by omega, fun p H2 np hp s2 => ?_⟩
      have npD : p ≠ D := fun q => by
        rw [q, hD'] at np
        cases np
      refine ⟨ps.map V.ref, s2 _ _ hD', small1000 (by rw [List.length_map]; omega), ps ++ [p], by simp [hl], by rw [upd_same, List.map_append]; rfl, fun q hq => ?_, fun b o e => ?_⟩
      · rcases List.mem_append.mp hq with hq | hq
        · obtain ⟨h1, h2⟩ := hps q hq
          exact ⟨(h1.same s2).but (p := D) But.upd h2, h2⟩
        · rw [List.mem_singleton.mp hq]
          exact ⟨hp.but (p := D) But.upd npD, npD⟩
      · rw [upd_ne (ne_of_none e hD)]
        exact s2 _ _ (sm _ _ e)
    · rintro H' ⟨ps, hl, hD', hps, sm⟩
      exact k D ps H' hD hD' hps (by omega) sm
end
end K01

set_option maxHeartbeats 4000000
namespace K01
open PySem PySem.Spec PyProof.Rows L2 G1
/-- some[draw(len(some))] -/
def spOne (K : PySem.W.Frag) : Sp := fun vs H Q _ => ∃ (p l : Addr) (xs : List V) (c : Nat), vs = [.ref p, .ref l] ∧ Purse H p c ∧ c ≤ 1000000 ∧ SqL K H l xs ∧ l ≠ p ∧ 0 < xs.length ∧ xs.length ≤ 1000 ∧
  ∀ (v : V) (H' : Hp), v ∈ xs → Purse H' p (c + 3) → But p H H' → Q v H'
def Letters (z : Str) : Prop := ∀ c ∈ z.cps.toList, c < 128
def spWord : Sp := fun vs H Q _ => ∃ (p : Addr) (c : Nat), vs = [.ref p] ∧ Purse H p c ∧ c ≤ 900000 ∧
  ∀ (z : Str) (H' : Hp), z.length ≤ 8 → Letters z → Purse H' p (c + 27) → But p H H' → Q (.str z) H'
theorem SqL.but {K : PySem.W.Frag} {H H' : Hp} {p l : Addr} {xs : List V} (h : SqL K H l xs) (b : But p H H') (n : l ≠ p) : SqL K H' l xs := by
  rcases h with (h | ⟨o, h⟩) | h
  · exact .inl (.inl (b _ _ n h))
  · exact .inl (.inr ⟨o, b _ _ n h⟩)
  · exact .inr h
theorem at_lt {xs : List V} {r : Int} (h0 : 0 ≤ r) (h1 : r < xs.length) : ∃ v, atI xs r = some v ∧ v ∈ xs := by
  obtain ⟨k, rfl⟩ := Int.eq_ofNat_of_zero_le h0
  have hk : k < xs.length := by omega
  exact ⟨xs[k], atI_nat (List.getElem?_eq_getElem hk), List.getElem_mem hk⟩
section
variable {P : Program} {w : World} {K : PySem.W.Frag} {mg : Str → Option Value} {base : Heap}
abbrev sOne : Stmt := top 34
theorem scOne : FnScope ["_law_purse_here", "_law_some"] ["_law_purse_here", "_law_some"] (defScope sOne) := ⟨rfl, rfl, rfl, by decide +kernel, rfl, by decide +kernel, by decide +kernel⟩
theorem ok_one {f fD : Addr} {fd fdD : FuncData} (F : FnP K "_law_one_of" sOne f fd) (L : Lib K mg) (FD : FnP K "_law_draw" sDraw fD fdD) (gD : mg "_law_draw" = some (.ref fD))
    (GD : FnOk P w K mg base CX0 2 fD fdD ["_law_purse_here", "_law_many"] spDraw) : FnOk P w K mg base CX0 3 f fd ["_law_purse_here", "_law_some"] (spOne K) := by
  have bD : Binds K fdD ["_law_purse_here", "_law_many"] [] := FD.bindsN fun _ _ _ _ _ _ us hl => match us, hl with | [_, _], _ => rfl
  refine okN F scOne (fun vs H Q E h => ?_) (fun cdv A outer s H vs Q E hr h => ?_)
  · obtain ⟨_, _, _, _, rfl, _⟩ := h
    rfl
  · obtain ⟨p, l, xs, c, rfl, hp, hc, hl, nlp, l0, l1, k⟩ := h
    refine ⟨_, pss_one (ps_ret (pe_ix ix_list (pv 1) (pe_call GD hr rfl gD FD.kp bD .nil pass0 (pa_cons (pv 0) (pa_cons (pe_callB call_len_seq (by rfl) L.len PySem.boot_len (pa_cons (pv 1) pa_nil)) pa_nil))) (fun _ _ => rfl))), ?_⟩
    refine ⟨_, rfl, _, rfl, _, rfl, l, _, rfl, .inl hl, p, (xs.length : Int), c, rfl, by omega, by omega, hp, hc, fun r H' r0 r1 hp' hb => ?_⟩
    obtain ⟨v, hv, hm⟩ := at_lt r0 r1
    exact ⟨l, xs, r, v, rfl, rfl, SqL.but hl hb nlp, hv, k v H' hm hp' hb⟩
abbrev sWord : Stmt := top 35
theorem scWord : FnScope ["_law_purse_here", "_law_found", "_law_turn"] ["_law_purse_here"] (defScope sWord) := ⟨rfl, rfl, rfl, by decide +kernel, rfl, by decide +kernel, by decide +kernel⟩
theorem len1 (z : Str) (ch : Nat) : (z ++ (⟨#[ch]⟩ : Str)).length = z.length + 1 := by
  show (z.cps ++ #[ch]).size = z.cps.size + 1
  simp
theorem cps1 (z : Str) (ch : Nat) : (z ++ (⟨#[ch]⟩ : Str)).cps.toList = z.cps.toList ++ [ch] := by
  show (z.cps ++ #[ch]).toList = z.cps.toList ++ [ch]
  simp
theorem abc_at (r : Int) (h0 : 0 ≤ r) (h1 : r < 26) : ∃ c, atI ("abcdefghijklmnopqrstuvwxyz" : Str).cps.toList r = some c ∧ c < 128 := by
  have key : ∀ n : Fin 26, (("abcdefghijklmnopqrstuvwxyz" : Str).cps.toList[n.1]?).any (fun c => decide (c < 128)) = true := by decide +kernel
  obtain ⟨k, rfl⟩ := Int.eq_ofNat_of_zero_le h0
  have hk := key ⟨k, by omega⟩
  cases e : ("abcdefghijklmnopqrstuvwxyz" : Str).cps.toList[k]? with
  | none =>
    rw [show ("abcdefghijklmnopqrstuvwxyz" : Str).cps.toList[(⟨k, by omega⟩ : Fin 26).1]? = none from e] at hk
    cases hk
  | some c =>
    rw [show ("abcdefghijklmnopqrstuvwxyz" : Str).cps.toList[(⟨k, by omega⟩ : Fin 26).1]? = some c from e] at hk
    exact ⟨c, by
      have q := e
      unfold atI
      obtain ⟨hlt, _⟩ := List.getElem?_eq_some_iff.mp q
      have := atI_nat (α := Nat) (xs := ("abcdefghijklmnopqrstuvwxyz" : Str).cps.toList) q
      unfold atI at this
      exact this, by simpa using hk⟩
theorem ok_word {f fD : Addr} {fd fdD : FuncData} (F : FnP K "_law_word" sWord f fd) (L : Lib K mg) (FD : FnP K "_law_draw" sDraw fD fdD) (gD : mg "_law_draw" = some (.ref fD))
    (GD : FnOk P w K mg base CX0 2 fD fdD ["_law_purse_here", "_law_many"] spDraw) : FnOk P w K mg base CX0 3 f fd ["_law_purse_here"] spWord := by
  have bD : Binds K fdD ["_law_purse_here", "_law_many"] [] := FD.bindsN fun _ _ _ _ _ _ us hl => match us, hl with | [_, _], _ => rfl
  refine okN F scWord (fun vs H Q E h => ?_) (fun cdv A outer s H vs Q E hr h => ?_)
  · obtain ⟨_, _, rfl, _⟩ := h
    rfl
  · obtain ⟨p, c, rfl, hp, hc, k⟩ := h
    refine ⟨_, pss_cons (ps_set (i := 1) scWord.nd rfl (Or.inl rfl) pe_str)
      (pss_cons (ps_for PassesOwn.never rfl (pi_range1 rfl L.range (pa_cons (pe_op op_add pe_int (pe_call GD hr rfl gD FD.kp bD .nil pass0 (pa_cons (pv 0) (pa_cons pe_int pa_nil)))) pa_nil)) (pg_name (i := 2) scWord.nd rfl (Or.inl rfl))
        (pss_one (ps_set (i := 1) scWord.nd rfl (Or.inl rfl) (pe_op op_add_str (pv 1) (pe_ix ix_str pe_str (pe_call GD hr rfl gD FD.kp bD .nil pass0 (pa_cons (pv 0) (pa_cons pe_int pa_nil))) (fun _ _ => rfl))))))
      (pss_one (ps_ret (pv 1)))), ?_⟩
    refine ⟨_, rfl, p, 8, c, rfl, by decide, by decide, hp, by omega, fun r H1 r0 r1 hp1 hb1 => ?_⟩
    refine ⟨_, _, rfl, rfl, _, rfl, by omega, by omega, ?_⟩
    generalize hn : (1 + r).toNat = n
    have n8 : n ≤ 8 := by omega
    refine for_range (lo := 0) (n := n) (fun i σ H' => ∃ (z : Str) (o : Option V), σ = [some (.ref p), some (.str z), o] ∧ z.length ≤ i ∧ Letters z ∧ Purse H' p (c + 3 + 3 * i) ∧ But p H H')
      ⟨_, none, rfl, Nat.le_refl 0, (fun c hc => by cases hc), hp1.mono (by omega), hb1⟩ ?_ ?_
    · rintro i σ H' hi ⟨z, o, rfl, zl, zs, hp', hb'⟩
      refine ⟨_, rfl, _, rfl, p, 26, _, rfl, by decide, by decide, hp', by omega, fun q H2 q0 q1 hp2 hb2 => ?_⟩
      obtain ⟨ch, hch, hc128⟩ := abc_at q q0 q1
      refine ⟨_, q, ch, rfl, rfl, by decide +kernel, hch, _, _, rfl, rfl, ?_, _, _, rfl, ?_, ?_, hp2.mono (by omega), hb'.trans hb2⟩
      · show z.length + 1 ≤ sizeLine
        exact Nat.le_of_lt (small1000 (by omega))
      · rw [len1]
        omega
      · intro d hd
        rcases List.mem_append.mp (show d ∈ z.cps.toList ++ [ch] by rw [← cps1]; exact hd) with hd | hd
        · exact zs d hd
        · rw [List.mem_singleton.mp hd]
          exact hc128
    · rintro σ H' ⟨z, o, rfl, zl, zs, hp', hb'⟩
      exact ⟨_, rfl, k z H' (by omega) zs (hp'.mono (by omega)) hb'⟩
end
end K01

set_option maxHeartbeats 4000000
namespace K01
open PySem PySem.Spec PyProof.Rows L2 G1
/-! ### the errors' classes -/
abbrev initS (i : Nat) : Stmt := inClass (top i) 0
def iPs : List Str := ["self", "value"]
/-- the class x, at C, and its __init__, at fI -/
structure ErrC (P : Program) (w : World) (K : PySem.W.Frag) (mg : Str → Option Value) (base : Heap) (x : Str) (C : Addr) : Prop where
  ex : ∃ (fI : Addr) (fd : FuncData) (ds : List Value) (gw : List Value → List Value → List Value), EC K C fI ∧ FnOk P w K mg base CX0 1 fI fd iPs (spE C) ∧ Binds K fd iPs [] ∧ Binds K fd iPs ds ∧ Vals [.non] ds ∧
    KBn K fd iPs 1 ["value"] gw (fun vs zs => vs ++ zs)
  gl : mg x = some (.ref C)
def tErr (C : Addr) (i : Nat) : TE := fun σ H Q => ∃ v, σ[i]? = some (some v) ∧ ∀ a H', ErrAt H' a C v → Same H H' → H a = none → Q (.ref a) H'
def tErr0 (C : Addr) : TE := fun _ H Q => ∀ a H', ErrAt H' a C .non → Same H H' → H a = none → Q (.ref a) H'
theorem made_of {H : Hp} {C : Addr} {v : V} {Q : VK} (h : ∀ a H', ErrAt H' a C v → Same H H' → H a = none → Q (.ref a) H') (a : Addr) (ha : H a = none) :
    spE C [.ref a, v] (upd H a (exo a C none)) (fun u H2 => u = .non ∧ Q (.ref a) H2) E0 := by
  refine ⟨a, v, rfl, upd_same, fun d hd hda => ⟨rfl, ?_⟩⟩
  have hdn : H d = none := by
    rw [upd_ne hda] at hd
    exact hd
  exact h a _ (errH_at (H := H) hda) (errH_same ha hdn) ha
section
variable {X : Cx} {x : Str} {C : Addr} {i : Nat} {y : Str} {p p1 pos : Pos}
theorem pe_err (E : ErrC X.prog X.w X.K X.mg X.base x C) (hr : Room 2 X.A) (i : Nat) (hg : Gl X x) (hN : X.N[i]? = some y := by rfl) (hv : Vis X.env.scope y := by first | exact Or.inl rfl | exact Or.inr (Or.inl rfl))
    (hd : (y == ("__debug__" : Str)) = false := by decide) (hcd : (y == ("__classdict__" : Str)) = false := by decide) (hdb : (x == ("__debug__" : Str)) = false := by decide)
    (he : starEach [.Name y p1] X.env = (false, eval (.Name y p1) X.env) :: starEach [] X.env := by rfl) (hpl : (backTo pos (starEach [] X.env)).any (·.1) = false := by rfl) :
    PE X (.Call (.Name x p) [.Name y p1] [] pos) (tErr C i) := by
  obtain ⟨fI, fd, ds, gw, T, F, b1, b0, v0, bk⟩ := E.ex
  constructor
  intro pins s σ H Q I h
  obtain ⟨v, hσ, q⟩ := h
  exact (pe_mkE T F hr b1 .nil hg E.gl (pa_cons (pe_var hN hv hd hcd) pa_nil he) hdb he hpl).run pins s σ H Q I ⟨v, hσ, by show 1 ≤ 1000; decide, made_of q⟩
theorem pe_err0 (E : ErrC X.prog X.w X.K X.mg X.base x C) (hr : Room 2 X.A) (hg : Gl X x) (hdb : (x == ("__debug__" : Str)) = false := by decide) : PE X (.Call (.Name x p) [] [] pos) (tErr0 C) := by
  obtain ⟨fI, fd, ds, gw, T, F, b1, b0, v0, bk⟩ := E.ex
  constructor
  intro pins s σ H Q I h
  exact (pe_mkE0 T F hr b0 v0 hg E.gl hdb).run pins s σ H Q I ⟨by show 0 ≤ 1000; decide, made_of h⟩
theorem pe_errK (E : ErrC X.prog X.w X.K X.mg X.base x C) (hr : Room 2 X.A) (i : Nat) (hg : Gl X x) {kp : Pos} (hkw : PK X [⟨some "value", .Name y p1, kp⟩] (tCons (tVar i) tNil))
    (hall : (backToKw pos (keywordEach [⟨some "value", .Name y p1, kp⟩] X.env)).all (·.1.isSome) = true := by rfl) (hks : (backToKw pos (keywordEach [⟨some "value", .Name y p1, kp⟩] X.env)).filterMap (·.1) = [("value" : Str)] := by rfl) (hdb : (x == ("__debug__" : Str)) = false := by decide)
    (hpl : ((backTo pos (starEach [] X.env)).any (·.1) || (backToKw pos (keywordEach [⟨some "value", .Name y p1, kp⟩] X.env)).any (·.1.isNone)) = false := by rfl) :
    PE X (.Call (.Name x p) [] [⟨some "value", .Name y p1, kp⟩] pos) (tErr C i) := by
  obtain ⟨fI, fd, ds, gw, T, F, b1, b0, v0, bk⟩ := E.ex
  constructor
  intro pins s σ H Q I h
  obtain ⟨v, hσ, q⟩ := h
  exact (pe_mkEK T F hr bk hg E.gl hkw hall hks hdb hpl).run pins s σ H Q I ⟨v, hσ, rfl, made_of q⟩
end
/-! ### lists of errors -/
def Errs (H : Hp) (v : V) (as Cs : List Addr) : Prop := Paired (fun a C => ErrAt H a C v) as Cs
theorem Errs.same {H H' : Hp} {v : V} {as Cs : List Addr} (h : Errs H v as Cs) (s : Same H H') : Errs H' v as Cs := L2.Paired.mapP h fun _ _ e => e.same s
theorem Errs.app {H : Hp} {v : V} {as Cs bs Ds : List Addr} (h : Errs H v as Cs) (k : Errs H v bs Ds) : Errs H v (as ++ bs) (Cs ++ Ds) := by
  unfold Errs at h
  induction h with
  | nil => exact k
  | cons r _ ih => exact .cons r ih
def tErrs (i : Nat) : List Addr → TA
  | [] => tNil
  | C :: Cs => tCons (tErr C i) (tErrs i Cs)
def tErrs0 : List Addr → TA
  | [] => tNil
  | C :: Cs => tCons (tErr0 C) (tErrs0 Cs)
theorem errs_run {i : Nat} {v : V} {σ : L2.St} (hσ : σ[i]? = some (some v)) : ∀ {Cs : List Addr} {H : Hp} {Q : List V → Hp → Prop}, (∀ as H', Errs H' v as Cs → Same H H' → Q (as.map V.ref) H') → tErrs i Cs σ H Q
  | [], H, Q, h => h [] H .nil (Same.refl H)
  | C :: Cs, H, Q, h => ⟨v, hσ, fun a H1 ea s1 _ => errs_run hσ (Cs := Cs) fun as H2 e2 s2 => h (a :: as) H2 (.cons (ea.same s2) e2) (s1.trans s2)⟩
theorem errs_run0 {σ : L2.St} : ∀ {Cs : List Addr} {H : Hp} {Q : List V → Hp → Prop}, (∀ as H', Errs H' .non as Cs → Same H H' → Q (as.map V.ref) H') → tErrs0 Cs σ H Q
  | [], H, Q, h => h [] H .nil (Same.refl H)
  | C :: Cs, H, Q, h => fun a H1 ea s1 _ => errs_run0 (Cs := Cs) fun as H2 e2 s2 => h (a :: as) H2 (.cons (ea.same s2) e2) (s1.trans s2)
theorem Errs.len {H : Hp} {v : V} {as Cs : List Addr} (h : Errs H v as Cs) : as.length = Cs.length := Paired.length h
/-- a display of errors -/
theorem lst_run {i : Nat} {v : V} {σ : L2.St} {Cs : List Addr} {H : Hp} {Q : VK} (hσ : σ[i]? = some (some v)) (hl : Cs.length ≤ 1000)
    (h : ∀ D as H', H' D = some (.lst (as.map V.ref)) → Errs H' v as Cs → Same H H' → H D = none → Q (.ref D) H') : tLst (tErrs i Cs) σ H Q := by
  refine errs_run hσ fun as H1 e1 s1 => ⟨by rw [List.length_map, e1.len]; exact Nat.le_of_lt (small1000 hl), fun D hD => ?_⟩
  have s2 : Same H1 (upd H1 D (.lst (as.map V.ref))) := fun b o e => by rw [upd_ne (ne_of_none e hD)]; exact e
  exact h D as _ upd_same (e1.same s2) (s1.trans s2) (s1.free hD)
theorem lst_run0 {σ : L2.St} {Cs : List Addr} {H : Hp} {Q : VK} (hl : Cs.length ≤ 1000)
    (h : ∀ D as H', H' D = some (.lst (as.map V.ref)) → Errs H' .non as Cs → Same H H' → H D = none → Q (.ref D) H') : tLst (tErrs0 Cs) σ H Q := by
  refine errs_run0 fun as H1 e1 s1 => ⟨by rw [List.length_map, e1.len]; exact Nat.le_of_lt (small1000 hl), fun D hD => ?_⟩
  have s2 : Same H1 (upd H1 D (.lst (as.map V.ref))) := fun b o e => by rw [upd_ne (ne_of_none e hD)]; exact e
  exact h D as _ upd_same (e1.same s2) (s1.trans s2) (s1.free hD)
/-- a list of errors, new since H0 -/
def ErrL (H0 H : Hp) (v : V) (D : Addr) (Cs : List Addr) : Prop := ∃ as, H D = some (.lst (as.map V.ref)) ∧ Errs H v as Cs ∧ Same H0 H ∧ H0 D = none
/-- found + a display -/
theorem cat_run {i j : Nat} {v : V} {σ : L2.St} {Cs Ds : List Addr} {H0 H : Hp} {D : Addr} {Q : VK} (hσ : σ[i]? = some (some v)) (hj : σ[j]? = some (some (.ref D))) (hD : ErrL H0 H v D Cs) (hl : Cs.length + Ds.length ≤ 1000)
    (h : ∀ D' H', ErrL H0 H' v D' (Cs ++ Ds) → Q (.ref D') H') : tOp rCat (tVar j) (tLst (tErrs i Ds)) σ H Q := by
  obtain ⟨as, e0, e1, s0, n0⟩ := hD
  refine ⟨_, hj, lst_run hσ (by omega) fun B bs H1 b0 b1 s1 nb => ?_⟩
  refine ⟨D, B, _, _, rfl, rfl, s1 _ _ e0, b0, by rw [List.length_map, List.length_map, e1.len, b1.len]; exact Nat.le_of_lt (small1000 hl), fun p hp => ?_⟩
  have s2 : Same H1 (upd H1 p (.lst (as.map V.ref ++ bs.map V.ref))) := fun b o e => by rw [upd_ne (ne_of_none e hp)]; exact e
  refine h p _ ⟨as ++ bs, by rw [upd_same, List.map_append], ((e1.same s1).app b1).same s2, (s0.trans s1).trans s2, (s0.trans s1).free hp⟩
theorem cat_run0 {j : Nat} {σ : L2.St} {Cs Ds : List Addr} {H0 H : Hp} {D : Addr} {Q : VK} (hj : σ[j]? = some (some (.ref D))) (hD : ErrL H0 H .non D Cs) (hl : Cs.length + Ds.length ≤ 1000)
    (h : ∀ D' H', ErrL H0 H' .non D' (Cs ++ Ds) → Q (.ref D') H') : tOp rCat (tVar j) (tLst (tErrs0 Ds)) σ H Q := by
  obtain ⟨as, e0, e1, s0, n0⟩ := hD
  refine ⟨_, hj, lst_run0 (by omega) fun B bs H1 b0 b1 s1 nb => ?_⟩
  refine ⟨D, B, _, _, rfl, rfl, s1 _ _ e0, b0, by rw [List.length_map, List.length_map, e1.len, b1.len]; exact Nat.le_of_lt (small1000 hl), fun p hp => ?_⟩
  have s2 : Same H1 (upd H1 p (.lst (as.map V.ref ++ bs.map V.ref))) := fun b o e => by rw [upd_ne (ne_of_none e hp)]; exact e
  refine h p _ ⟨as ++ bs, by rw [upd_same, List.map_append], ((e1.same s1).app b1).same s2, (s0.trans s1).trans s2, (s0.trans s1).free hp⟩
end K01

set_option maxHeartbeats 4000000
namespace K01
open PySem PySem.Spec PyProof.Rows L2 G1
def nm : List Str := ["InvalidEntry", "InvalidEntries", "InvalidRow", "InvalidRows", "InvalidPanel", "InvalidField", "UnknownEntry", "TakenEntry", "InvalidLot", "InvalidLots", "InvalidCount", "InvalidTable", "InvalidTree", "Unlike", "Clash", "InvalidBook", "InvalidLine", "InvalidRounds", "InvalidChances", "InvalidStewards", "LastRow", "InvalidLive", "InvalidScript", "InvalidLog", "InvalidText"]
theorem nm_at {i : Nat} {x : Str} (h : nm[i]? = some x) : x ∈ nm := List.mem_of_getElem? h
abbrev ga (K : PySem.W.Frag) (x : Str) : Addr := He.ga K x
abbrev AllE (P : Program) (w : World) (K : PySem.W.Frag) (mg : Str → Option Value) (base : Heap) : Prop := ∀ x ∈ nm, ErrC P w K mg base x (ga K x)
theorem asg_run {te : TE} {i : Nat} {u : TS} {D : Ends} {σ : L2.St} {H : Hp} (h : te σ H fun x H1 => u D (σ.set i (some x)) H1) : tSeq (tAsg te (gName i)) u D σ H := h
def spFirst (K : PySem.W.Frag) : Sp := fun vs H Q _ => ∃ v, vs = [v] ∧ ∀ D H', ErrL H H' v D (nm.map (ga K)) → Q (.ref D) H'
def spBare (K : PySem.W.Frag) : Sp := fun vs H Q _ => vs = [] ∧ ∀ D H', ErrL H H' .non D (nm.map (ga K)) → Q (.ref D) H'
section
variable {P : Program} {w : World} {K : PySem.W.Frag} {mg : Str → Option Value} {base : Heap}
abbrev sFirst : Stmt := top 36
theorem scsFirst : FnScope ["_law_thing", "_law_found"] ["_law_thing"] (defScope sFirst) := ⟨rfl, rfl, rfl, by decide +kernel, rfl, by decide +kernel, by decide +kernel⟩
theorem ok_first {f : Addr} {fd : FuncData} (F : FnP K "_law_first" sFirst f fd) (E : AllE P w K mg base) : FnOk P w K mg base CX0 3 f fd ["_law_thing"] (spFirst K) := by
  refine okN F scsFirst (fun vs H Q E h => ?_) (fun cdv A outer s H vs Q Ex hr h => ?_)
  · obtain ⟨v, rfl, _⟩ := h
    rfl
  · obtain ⟨v, rfl, k⟩ := h
    refine ⟨_, pss_cons (ps_set (i := 1) scsFirst.nd rfl (Or.inl rfl) (pe_lst (pa_cons (pe_err (E "InvalidEntry" (nm_at (i := 0) rfl)) hr 0 (by rfl)) (pa_cons (pe_err (E "InvalidEntries" (nm_at (i := 1) rfl)) hr 0 (by rfl)) (pa_cons (pe_err (E "InvalidRow" (nm_at (i := 2) rfl)) hr 0 (by rfl)) (pa_cons (pe_err (E "InvalidRows" (nm_at (i := 3) rfl)) hr 0 (by rfl)) pa_nil))))))
      (pss_cons (ps_set (i := 1) scsFirst.nd rfl (Or.inl rfl) (pe_op op_cat (pv 1) (pe_lst (pa_cons (pe_err (E "InvalidPanel" (nm_at (i := 4) rfl)) hr 0 (by rfl)) (pa_cons (pe_err (E "InvalidField" (nm_at (i := 5) rfl)) hr 0 (by rfl)) (pa_cons (pe_err (E "UnknownEntry" (nm_at (i := 6) rfl)) hr 0 (by rfl)) (pa_cons (pe_err (E "TakenEntry" (nm_at (i := 7) rfl)) hr 0 (by rfl)) pa_nil)))))))
      (pss_cons (ps_set (i := 1) scsFirst.nd rfl (Or.inl rfl) (pe_op op_cat (pv 1) (pe_lst (pa_cons (pe_err (E "InvalidLot" (nm_at (i := 8) rfl)) hr 0 (by rfl)) (pa_cons (pe_err (E "InvalidLots" (nm_at (i := 9) rfl)) hr 0 (by rfl)) (pa_cons (pe_err (E "InvalidCount" (nm_at (i := 10) rfl)) hr 0 (by rfl)) (pa_cons (pe_err (E "InvalidTable" (nm_at (i := 11) rfl)) hr 0 (by rfl)) pa_nil)))))))
      (pss_cons (ps_set (i := 1) scsFirst.nd rfl (Or.inl rfl) (pe_op op_cat (pv 1) (pe_lst (pa_cons (pe_err (E "InvalidTree" (nm_at (i := 12) rfl)) hr 0 (by rfl)) (pa_cons (pe_err (E "Unlike" (nm_at (i := 13) rfl)) hr 0 (by rfl)) (pa_cons (pe_err (E "Clash" (nm_at (i := 14) rfl)) hr 0 (by rfl)) (pa_cons (pe_err (E "InvalidBook" (nm_at (i := 15) rfl)) hr 0 (by rfl)) pa_nil)))))))
      (pss_cons (ps_set (i := 1) scsFirst.nd rfl (Or.inl rfl) (pe_op op_cat (pv 1) (pe_lst (pa_cons (pe_err (E "InvalidLine" (nm_at (i := 16) rfl)) hr 0 (by rfl)) (pa_cons (pe_err (E "InvalidRounds" (nm_at (i := 17) rfl)) hr 0 (by rfl)) (pa_cons (pe_err (E "InvalidChances" (nm_at (i := 18) rfl)) hr 0 (by rfl)) (pa_cons (pe_err (E "InvalidStewards" (nm_at (i := 19) rfl)) hr 0 (by rfl)) pa_nil)))))))
      (pss_cons (ps_set (i := 1) scsFirst.nd rfl (Or.inl rfl) (pe_op op_cat (pv 1) (pe_lst (pa_cons (pe_err (E "LastRow" (nm_at (i := 20) rfl)) hr 0 (by rfl)) (pa_cons (pe_err (E "InvalidLive" (nm_at (i := 21) rfl)) hr 0 (by rfl)) (pa_cons (pe_err (E "InvalidScript" (nm_at (i := 22) rfl)) hr 0 (by rfl)) (pa_cons (pe_err (E "InvalidLog" (nm_at (i := 23) rfl)) hr 0 (by rfl)) pa_nil)))))))
      (pss_cons (ps_set (i := 1) scsFirst.nd rfl (Or.inl rfl) (pe_op op_cat (pv 1) (pe_lst (pa_cons (pe_err (E "InvalidText" (nm_at (i := 24) rfl)) hr 0 (by rfl)) pa_nil))))
      (pss_one (ps_ret (pv 1))))))))), ?_⟩
    refine asg_run ?_
    refine lst_run (i := 0) (Cs := [ga K "InvalidEntry", ga K "InvalidEntries", ga K "InvalidRow", ga K "InvalidRows"]) (by rfl) (Nat.le_of_ble_eq_true rfl) fun D as H1 e1 e2 s1 nD => ?_
    have L1 : ErrL H H1 v D [ga K "InvalidEntry", ga K "InvalidEntries", ga K "InvalidRow", ga K "InvalidRows"] := ⟨as, e1, e2, s1, nD⟩
    refine asg_run ?_
    refine cat_run (i := 0) (j := 1) (Ds := [ga K "InvalidPanel", ga K "InvalidField", ga K "UnknownEntry", ga K "TakenEntry"]) (by rfl) (by rfl) L1 (Nat.le_of_ble_eq_true rfl) fun D2 H2 L2 => ?_
    refine asg_run ?_
    refine cat_run (i := 0) (j := 1) (Ds := [ga K "InvalidLot", ga K "InvalidLots", ga K "InvalidCount", ga K "InvalidTable"]) (by rfl) (by rfl) L2 (Nat.le_of_ble_eq_true rfl) fun D3 H3 L3 => ?_
    refine asg_run ?_
    refine cat_run (i := 0) (j := 1) (Ds := [ga K "InvalidTree", ga K "Unlike", ga K "Clash", ga K "InvalidBook"]) (by rfl) (by rfl) L3 (Nat.le_of_ble_eq_true rfl) fun D4 H4 L4 => ?_
    refine asg_run ?_
    refine cat_run (i := 0) (j := 1) (Ds := [ga K "InvalidLine", ga K "InvalidRounds", ga K "InvalidChances", ga K "InvalidStewards"]) (by rfl) (by rfl) L4 (Nat.le_of_ble_eq_true rfl) fun D5 H5 L5 => ?_
    refine asg_run ?_
    refine cat_run (i := 0) (j := 1) (Ds := [ga K "LastRow", ga K "InvalidLive", ga K "InvalidScript", ga K "InvalidLog"]) (by rfl) (by rfl) L5 (Nat.le_of_ble_eq_true rfl) fun D6 H6 L6 => ?_
    refine asg_run ?_
    refine cat_run (i := 0) (j := 1) (Ds := [ga K "InvalidText"]) (by rfl) (by rfl) L6 (Nat.le_of_ble_eq_true rfl) fun D7 H7 L7 => ?_
    exact ⟨_, rfl, k _ _ L7⟩
abbrev sCalled : Stmt := top 37
theorem scsCalled : FnScope ["_law_thing", "_law_found"] ["_law_thing"] (defScope sCalled) := ⟨rfl, rfl, rfl, by decide +kernel, rfl, by decide +kernel, by decide +kernel⟩
theorem ok_called {f : Addr} {fd : FuncData} (F : FnP K "_law_called" sCalled f fd) (E : AllE P w K mg base) : FnOk P w K mg base CX0 3 f fd ["_law_thing"] (spFirst K) := by
  refine okN F scsCalled (fun vs H Q E h => ?_) (fun cdv A outer s H vs Q Ex hr h => ?_)
  · obtain ⟨v, rfl, _⟩ := h
    rfl
  · obtain ⟨v, rfl, k⟩ := h
    refine ⟨_, pss_cons (ps_set (i := 1) scsCalled.nd rfl (Or.inl rfl) (pe_lst (pa_cons (pe_errK (E "InvalidEntry" (nm_at (i := 0) rfl)) hr 0 (by rfl) (pk_cons (pv 0) pk_nil)) (pa_cons (pe_errK (E "InvalidEntries" (nm_at (i := 1) rfl)) hr 0 (by rfl) (pk_cons (pv 0) pk_nil)) (pa_cons (pe_errK (E "InvalidRow" (nm_at (i := 2) rfl)) hr 0 (by rfl) (pk_cons (pv 0) pk_nil)) pa_nil)))))
      (pss_cons (ps_set (i := 1) scsCalled.nd rfl (Or.inl rfl) (pe_op op_cat (pv 1) (pe_lst (pa_cons (pe_errK (E "InvalidRows" (nm_at (i := 3) rfl)) hr 0 (by rfl) (pk_cons (pv 0) pk_nil)) (pa_cons (pe_errK (E "InvalidPanel" (nm_at (i := 4) rfl)) hr 0 (by rfl) (pk_cons (pv 0) pk_nil)) (pa_cons (pe_errK (E "InvalidField" (nm_at (i := 5) rfl)) hr 0 (by rfl) (pk_cons (pv 0) pk_nil)) pa_nil))))))
      (pss_cons (ps_set (i := 1) scsCalled.nd rfl (Or.inl rfl) (pe_op op_cat (pv 1) (pe_lst (pa_cons (pe_errK (E "UnknownEntry" (nm_at (i := 6) rfl)) hr 0 (by rfl) (pk_cons (pv 0) pk_nil)) (pa_cons (pe_errK (E "TakenEntry" (nm_at (i := 7) rfl)) hr 0 (by rfl) (pk_cons (pv 0) pk_nil)) (pa_cons (pe_errK (E "InvalidLot" (nm_at (i := 8) rfl)) hr 0 (by rfl) (pk_cons (pv 0) pk_nil)) pa_nil))))))
      (pss_cons (ps_set (i := 1) scsCalled.nd rfl (Or.inl rfl) (pe_op op_cat (pv 1) (pe_lst (pa_cons (pe_errK (E "InvalidLots" (nm_at (i := 9) rfl)) hr 0 (by rfl) (pk_cons (pv 0) pk_nil)) (pa_cons (pe_errK (E "InvalidCount" (nm_at (i := 10) rfl)) hr 0 (by rfl) (pk_cons (pv 0) pk_nil)) (pa_cons (pe_errK (E "InvalidTable" (nm_at (i := 11) rfl)) hr 0 (by rfl) (pk_cons (pv 0) pk_nil)) pa_nil))))))
      (pss_cons (ps_set (i := 1) scsCalled.nd rfl (Or.inl rfl) (pe_op op_cat (pv 1) (pe_lst (pa_cons (pe_errK (E "InvalidTree" (nm_at (i := 12) rfl)) hr 0 (by rfl) (pk_cons (pv 0) pk_nil)) (pa_cons (pe_errK (E "Unlike" (nm_at (i := 13) rfl)) hr 0 (by rfl) (pk_cons (pv 0) pk_nil)) (pa_cons (pe_errK (E "Clash" (nm_at (i := 14) rfl)) hr 0 (by rfl) (pk_cons (pv 0) pk_nil)) pa_nil))))))
      (pss_cons (ps_set (i := 1) scsCalled.nd rfl (Or.inl rfl) (pe_op op_cat (pv 1) (pe_lst (pa_cons (pe_errK (E "InvalidBook" (nm_at (i := 15) rfl)) hr 0 (by rfl) (pk_cons (pv 0) pk_nil)) (pa_cons (pe_errK (E "InvalidLine" (nm_at (i := 16) rfl)) hr 0 (by rfl) (pk_cons (pv 0) pk_nil)) (pa_cons (pe_errK (E "InvalidRounds" (nm_at (i := 17) rfl)) hr 0 (by rfl) (pk_cons (pv 0) pk_nil)) pa_nil))))))
      (pss_cons (ps_set (i := 1) scsCalled.nd rfl (Or.inl rfl) (pe_op op_cat (pv 1) (pe_lst (pa_cons (pe_errK (E "InvalidChances" (nm_at (i := 18) rfl)) hr 0 (by rfl) (pk_cons (pv 0) pk_nil)) (pa_cons (pe_errK (E "InvalidStewards" (nm_at (i := 19) rfl)) hr 0 (by rfl) (pk_cons (pv 0) pk_nil)) (pa_cons (pe_errK (E "LastRow" (nm_at (i := 20) rfl)) hr 0 (by rfl) (pk_cons (pv 0) pk_nil)) pa_nil))))))
      (pss_cons (ps_set (i := 1) scsCalled.nd rfl (Or.inl rfl) (pe_op op_cat (pv 1) (pe_lst (pa_cons (pe_errK (E "InvalidLive" (nm_at (i := 21) rfl)) hr 0 (by rfl) (pk_cons (pv 0) pk_nil)) (pa_cons (pe_errK (E "InvalidScript" (nm_at (i := 22) rfl)) hr 0 (by rfl) (pk_cons (pv 0) pk_nil)) (pa_cons (pe_errK (E "InvalidLog" (nm_at (i := 23) rfl)) hr 0 (by rfl) (pk_cons (pv 0) pk_nil)) pa_nil))))))
      (pss_cons (ps_set (i := 1) scsCalled.nd rfl (Or.inl rfl) (pe_op op_cat (pv 1) (pe_lst (pa_cons (pe_errK (E "InvalidText" (nm_at (i := 24) rfl)) hr 0 (by rfl) (pk_cons (pv 0) pk_nil)) pa_nil))))
      (pss_one (ps_ret (pv 1))))))))))), ?_⟩
    refine asg_run ?_
    refine lst_run (i := 0) (Cs := [ga K "InvalidEntry", ga K "InvalidEntries", ga K "InvalidRow"]) (by rfl) (Nat.le_of_ble_eq_true rfl) fun D as H1 e1 e2 s1 nD => ?_
    have L1 : ErrL H H1 v D [ga K "InvalidEntry", ga K "InvalidEntries", ga K "InvalidRow"] := ⟨as, e1, e2, s1, nD⟩
    refine asg_run ?_
    refine cat_run (i := 0) (j := 1) (Ds := [ga K "InvalidRows", ga K "InvalidPanel", ga K "InvalidField"]) (by rfl) (by rfl) L1 (Nat.le_of_ble_eq_true rfl) fun D2 H2 L2 => ?_
    refine asg_run ?_
    refine cat_run (i := 0) (j := 1) (Ds := [ga K "UnknownEntry", ga K "TakenEntry", ga K "InvalidLot"]) (by rfl) (by rfl) L2 (Nat.le_of_ble_eq_true rfl) fun D3 H3 L3 => ?_
    refine asg_run ?_
    refine cat_run (i := 0) (j := 1) (Ds := [ga K "InvalidLots", ga K "InvalidCount", ga K "InvalidTable"]) (by rfl) (by rfl) L3 (Nat.le_of_ble_eq_true rfl) fun D4 H4 L4 => ?_
    refine asg_run ?_
    refine cat_run (i := 0) (j := 1) (Ds := [ga K "InvalidTree", ga K "Unlike", ga K "Clash"]) (by rfl) (by rfl) L4 (Nat.le_of_ble_eq_true rfl) fun D5 H5 L5 => ?_
    refine asg_run ?_
    refine cat_run (i := 0) (j := 1) (Ds := [ga K "InvalidBook", ga K "InvalidLine", ga K "InvalidRounds"]) (by rfl) (by rfl) L5 (Nat.le_of_ble_eq_true rfl) fun D6 H6 L6 => ?_
    refine asg_run ?_
    refine cat_run (i := 0) (j := 1) (Ds := [ga K "InvalidChances", ga K "InvalidStewards", ga K "LastRow"]) (by rfl) (by rfl) L6 (Nat.le_of_ble_eq_true rfl) fun D7 H7 L7 => ?_
    refine asg_run ?_
    refine cat_run (i := 0) (j := 1) (Ds := [ga K "InvalidLive", ga K "InvalidScript", ga K "InvalidLog"]) (by rfl) (by rfl) L7 (Nat.le_of_ble_eq_true rfl) fun D8 H8 L8 => ?_
    refine asg_run ?_
    refine cat_run (i := 0) (j := 1) (Ds := [ga K "InvalidText"]) (by rfl) (by rfl) L8 (Nat.le_of_ble_eq_true rfl) fun D9 H9 L9 => ?_
    exact ⟨_, rfl, k _ _ L9⟩
abbrev sBare : Stmt := top 38
theorem scsBare : FnScope ["_law_found"] [] (defScope sBare) := ⟨rfl, rfl, rfl, by decide +kernel, rfl, by decide +kernel, by decide +kernel⟩
theorem ok_bare {f : Addr} {fd : FuncData} (F : FnP K "_law_bare" sBare f fd) (E : AllE P w K mg base) : FnOk P w K mg base CX0 3 f fd [] (spBare K) := by
  refine okN F scsBare (fun vs H Q E h => ?_) (fun cdv A outer s H vs Q Ex hr h => ?_)
  · obtain ⟨rfl, _⟩ := h
    rfl
  · obtain ⟨rfl, k⟩ := h
    refine ⟨_, pss_cons (ps_set (i := 0) scsBare.nd rfl (Or.inl rfl) (pe_lst (pa_cons (pe_err0 (E "InvalidEntry" (nm_at (i := 0) rfl)) hr (by rfl)) (pa_cons (pe_err0 (E "InvalidEntries" (nm_at (i := 1) rfl)) hr (by rfl)) (pa_cons (pe_err0 (E "InvalidRow" (nm_at (i := 2) rfl)) hr (by rfl)) (pa_cons (pe_err0 (E "InvalidRows" (nm_at (i := 3) rfl)) hr (by rfl)) pa_nil))))))
      (pss_cons (ps_set (i := 0) scsBare.nd rfl (Or.inl rfl) (pe_op op_cat (pv 0) (pe_lst (pa_cons (pe_err0 (E "InvalidPanel" (nm_at (i := 4) rfl)) hr (by rfl)) (pa_cons (pe_err0 (E "InvalidField" (nm_at (i := 5) rfl)) hr (by rfl)) (pa_cons (pe_err0 (E "UnknownEntry" (nm_at (i := 6) rfl)) hr (by rfl)) (pa_cons (pe_err0 (E "TakenEntry" (nm_at (i := 7) rfl)) hr (by rfl)) pa_nil)))))))
      (pss_cons (ps_set (i := 0) scsBare.nd rfl (Or.inl rfl) (pe_op op_cat (pv 0) (pe_lst (pa_cons (pe_err0 (E "InvalidLot" (nm_at (i := 8) rfl)) hr (by rfl)) (pa_cons (pe_err0 (E "InvalidLots" (nm_at (i := 9) rfl)) hr (by rfl)) (pa_cons (pe_err0 (E "InvalidCount" (nm_at (i := 10) rfl)) hr (by rfl)) (pa_cons (pe_err0 (E "InvalidTable" (nm_at (i := 11) rfl)) hr (by rfl)) pa_nil)))))))
      (pss_cons (ps_set (i := 0) scsBare.nd rfl (Or.inl rfl) (pe_op op_cat (pv 0) (pe_lst (pa_cons (pe_err0 (E "InvalidTree" (nm_at (i := 12) rfl)) hr (by rfl)) (pa_cons (pe_err0 (E "Unlike" (nm_at (i := 13) rfl)) hr (by rfl)) (pa_cons (pe_err0 (E "Clash" (nm_at (i := 14) rfl)) hr (by rfl)) (pa_cons (pe_err0 (E "InvalidBook" (nm_at (i := 15) rfl)) hr (by rfl)) pa_nil)))))))
      (pss_cons (ps_set (i := 0) scsBare.nd rfl (Or.inl rfl) (pe_op op_cat (pv 0) (pe_lst (pa_cons (pe_err0 (E "InvalidLine" (nm_at (i := 16) rfl)) hr (by rfl)) (pa_cons (pe_err0 (E "InvalidRounds" (nm_at (i := 17) rfl)) hr (by rfl)) (pa_cons (pe_err0 (E "InvalidChances" (nm_at (i := 18) rfl)) hr (by rfl)) (pa_cons (pe_err0 (E "InvalidStewards" (nm_at (i := 19) rfl)) hr (by rfl)) pa_nil)))))))
      (pss_cons (ps_set (i := 0) scsBare.nd rfl (Or.inl rfl) (pe_op op_cat (pv 0) (pe_lst (pa_cons (pe_err0 (E "LastRow" (nm_at (i := 20) rfl)) hr (by rfl)) (pa_cons (pe_err0 (E "InvalidLive" (nm_at (i := 21) rfl)) hr (by rfl)) (pa_cons (pe_err0 (E "InvalidScript" (nm_at (i := 22) rfl)) hr (by rfl)) (pa_cons (pe_err0 (E "InvalidLog" (nm_at (i := 23) rfl)) hr (by rfl)) pa_nil)))))))
      (pss_cons (ps_set (i := 0) scsBare.nd rfl (Or.inl rfl) (pe_op op_cat (pv 0) (pe_lst (pa_cons (pe_err0 (E "InvalidText" (nm_at (i := 24) rfl)) hr (by rfl)) pa_nil))))
      (pss_one (ps_ret (pv 0))))))))), ?_⟩
    refine asg_run ?_
    refine lst_run0 (Cs := [ga K "InvalidEntry", ga K "InvalidEntries", ga K "InvalidRow", ga K "InvalidRows"]) (Nat.le_of_ble_eq_true rfl) fun D as H1 e1 e2 s1 nD => ?_
    have L1 : ErrL H H1 .non D [ga K "InvalidEntry", ga K "InvalidEntries", ga K "InvalidRow", ga K "InvalidRows"] := ⟨as, e1, e2, s1, nD⟩
    refine asg_run ?_
    refine cat_run0 (j := 0) (Ds := [ga K "InvalidPanel", ga K "InvalidField", ga K "UnknownEntry", ga K "TakenEntry"]) (by rfl) L1 (Nat.le_of_ble_eq_true rfl) fun D2 H2 L2 => ?_
    refine asg_run ?_
    refine cat_run0 (j := 0) (Ds := [ga K "InvalidLot", ga K "InvalidLots", ga K "InvalidCount", ga K "InvalidTable"]) (by rfl) L2 (Nat.le_of_ble_eq_true rfl) fun D3 H3 L3 => ?_
    refine asg_run ?_
    refine cat_run0 (j := 0) (Ds := [ga K "InvalidTree", ga K "Unlike", ga K "Clash", ga K "InvalidBook"]) (by rfl) L3 (Nat.le_of_ble_eq_true rfl) fun D4 H4 L4 => ?_
    refine asg_run ?_
    refine cat_run0 (j := 0) (Ds := [ga K "InvalidLine", ga K "InvalidRounds", ga K "InvalidChances", ga K "InvalidStewards"]) (by rfl) L4 (Nat.le_of_ble_eq_true rfl) fun D5 H5 L5 => ?_
    refine asg_run ?_
    refine cat_run0 (j := 0) (Ds := [ga K "LastRow", ga K "InvalidLive", ga K "InvalidScript", ga K "InvalidLog"]) (by rfl) L5 (Nat.le_of_ble_eq_true rfl) fun D6 H6 L6 => ?_
    refine asg_run ?_
    refine cat_run0 (j := 0) (Ds := [ga K "InvalidText"]) (by rfl) L6 (Nat.le_of_ble_eq_true rfl) fun D7 H7 L7 => ?_
    exact ⟨_, rfl, k _ _ L7⟩
end
end K01

set_option maxHeartbeats 4000000
namespace K01
open PySem PySem.Spec PyProof.Rows L2 G1
def nm27 : List Str := nm ++ [("NothingToUndo" : Str), "NothingToRedo"]
def nm28 : List Str := nm27 ++ [("ShowError" : Str)]
theorem n27_at {i : Nat} {x : Str} (h : nm27[i]? = some x) : x ∈ nm27 := List.mem_of_getElem? h
theorem n28_of {x : Str} (h : x ∈ nm27) : x ∈ nm28 := List.mem_append_left _ h
structure IsF (K : PySem.W.Frag) (mg : Str → Option Value) : Prop where
  ex : ∀ x ∈ nm28, ExcC K (ga K x)
  gl : ∀ x ∈ nm28, mg x = some (.ref (ga K x))
  kit : ∀ x ∈ nm28, ∀ y ∈ nm27, PySem.W.kitOne K (.ref (ga K x)) (.ref (ga K y)) = some (decide (x = y))
  sho : ∀ x ∈ nm28, PySem.W.kitOne K (.ref (ga K x)) (.ref (ga K "ShowError")) = some true
  val : ∀ x ∈ nm28, PySem.W.kitOne K (.ref (ga K x)) (.type "ValueError") = some true
  fi : mg "isinstance" = none
  fv : mg "ValueError" = none
def bsOf (x : Str) : List Bool := nm27.map fun y => decide (x = y)
def codeOf (x : Str) : List Nat := (List.range 27).filter fun j => (bsOf x).getD j false
def inte (n : Nat) : V := .int (n : Int)
/-- an error of a class x, its codes, whether it is one -/
def spCode (K : PySem.W.Frag) : Sp := fun vs H Q _ => ∃ (a : Addr) (x : Str), vs = [.ref a] ∧ x ∈ nm28 ∧ AnyErr H a (ga K x) ∧ ∀ D H', H' D = some (.lst ((codeOf x).map inte)) → Same H H' → H D = none → Q (.ref D) H'
def spIsE (K : PySem.W.Frag) : Sp := fun vs H Q _ => ∃ (a : Addr) (x : Str), vs = [.ref a] ∧ x ∈ nm28 ∧ AnyErr H a (ga K x) ∧ Q (.bl true) H
theorem any_same {H H' : Hp} {a C : Addr} (h : AnyErr H a C) (s : Same H H') : AnyErr H' a C := by
  rcases h with h | ⟨d, fs, h1, h2⟩
  · exact .inl (s _ _ h)
  · exact .inr ⟨d, fs, s _ _ h1, s _ _ h2⟩
abbrev tIs (K : PySem.W.Frag) (y : Str) : TE := tCB (rIsX K) (tCons (tVar 0) (tCons (tC (.ref (ga K y))) tNil))
def tIss (K : PySem.W.Frag) : List Str → TA
  | [] => tNil
  | y :: ys => tCons (tIs K y) (tIss K ys)
theorem iss_run {K : PySem.W.Frag} {mg : Str → Option Value} (F : IsF K mg) {σ : L2.St} {a : Addr} {x : Str} {H : Hp} (hσ : σ[0]? = some (some (.ref a))) (hx : x ∈ nm28) (ha : AnyErr H a (ga K x)) : ∀ {ys : List Str} {Q : List V → Hp → Prop}, (∀ y ∈ ys, y ∈ nm27) →
    Q (ys.map fun y => V.bl (decide (x = y))) H → tIss K ys σ H Q
  | [], Q, _, h => h
  | y :: ys, Q, hy, h => ⟨_, hσ, a, ga K x, _, _, _, rfl, ha, F.ex x hx, .own _, F.kit x hx y (hy y List.mem_cons_self), iss_run F hσ hx ha (fun z hz => hy z (List.mem_cons_of_mem _ hz)) h⟩
def BlL (H0 H : Hp) (x : Str) (D : Addr) (ys : List Str) : Prop := H D = some (.lst (ys.map fun y => V.bl (decide (x = y)))) ∧ Same H0 H ∧ H0 D = none
theorem is_lst {K : PySem.W.Frag} {mg : Str → Option Value} (F : IsF K mg) {σ : L2.St} {a : Addr} {x : Str} {H : Hp} {Q : VK} {ys : List Str} (hσ : σ[0]? = some (some (.ref a))) (hx : x ∈ nm28) (ha : AnyErr H a (ga K x)) (hy : ∀ y ∈ ys, y ∈ nm27) (hl : ys.length ≤ 1000)
    (h : ∀ D H', BlL H H' x D ys → Q (.ref D) H') : tLst (tIss K ys) σ H Q :=
  iss_run F hσ hx ha hy ⟨by rw [List.length_map]; exact Nat.le_of_lt (small1000 hl), fun D hD => h D _ ⟨upd_same, fun b o e => by rw [upd_ne (ne_of_none e hD)]; exact e, hD⟩⟩
theorem is_cat {K : PySem.W.Frag} {mg : Str → Option Value} (F : IsF K mg) {σ : L2.St} {a : Addr} {x : Str} {H0 H : Hp} {Q : VK} {ys zs : List Str} {D : Addr} (hσ : σ[0]? = some (some (.ref a))) (h1 : σ[1]? = some (some (.ref D))) (hx : x ∈ nm28) (ha : AnyErr H0 a (ga K x))
    (hD : BlL H0 H x D ys) (hz : ∀ y ∈ zs, y ∈ nm27) (hl : ys.length + zs.length ≤ 1000) (h : ∀ D' H', BlL H0 H' x D' (ys ++ zs) → Q (.ref D') H') : tOp rCat (tVar 1) (tLst (tIss K zs)) σ H Q := by
  obtain ⟨e1, s1, n1⟩ := hD
  refine ⟨_, h1, is_lst F hσ hx (any_same ha s1) hz (by omega) fun B H2 ⟨b1, s2, nb⟩ => ?_⟩
  refine ⟨D, B, _, _, rfl, rfl, s2 _ _ e1, b1, by rw [List.length_map, List.length_map]; exact Nat.le_of_lt (small1000 hl), fun p hp => ?_⟩
  exact h p _ ⟨by rw [upd_same, List.map_append], fun b o e => by rw [upd_ne (ne_of_none (s2 _ _ (s1 _ _ e)) hp)]; exact s2 _ _ (s1 _ _ e), (s1.trans s2).free hp⟩
theorem in27 : ∀ {zs : List Str}, zs.all (fun y => decide (y ∈ nm27)) = true → ∀ y ∈ zs, y ∈ nm27 := fun h y hy => of_decide_eq_true (List.all_eq_true.mp h y hy)
section
variable {P : Program} {w : World} {K : PySem.W.Frag} {mg : Str → Option Value} {base : Heap}
abbrev sIsE : Stmt := top 40
theorem scIsE : FnScope ["_law_error"] ["_law_error"] (defScope sIsE) := ⟨rfl, rfl, rfl, by decide +kernel, rfl, by decide +kernel, by decide +kernel⟩
theorem s28 : ("ShowError" : Str) ∈ nm28 := List.mem_append_right _ (List.mem_singleton.mpr rfl)
theorem ok_isE {f : Addr} {fd : FuncData} (F : FnP K "_law_is_error" sIsE f fd) (T : IsF K mg) : FnOk P w K mg base CX0 1 f fd ["_law_error"] (spIsE K) := by
  refine okN F scIsE (fun vs H Q E h => ?_) (fun cdv A outer s H vs Q Ex hr h => ?_)
  · obtain ⟨_, _, rfl, _⟩ := h
    rfl
  · obtain ⟨a, x, rfl, hx, ha, k⟩ := h
    refine ⟨_, pss_one (ps_ret (pe_and (pe_callB call_isX (by rfl) T.fi (by decide +kernel) (pa_cons (pv 0) (pa_cons (pe_glob (v := .ref (ga K "ShowError")) (by rfl) (T.gl "ShowError" s28) rfl) pa_nil)))
      (pe_one (pe_callB call_isX (by rfl) T.fi (by decide +kernel) (pa_cons (pv 0) (pa_cons (pe_bltn (v := .ty "ValueError") (by rfl) T.fv (by decide +kernel) rfl) pa_nil)))))), ?_⟩
    refine ⟨_, rfl, a, ga K x, _, _, _, rfl, ha, T.ex x hx, .own _, T.sho x hx, true, rfl, ?_⟩
    exact iteT ⟨_, rfl, a, ga K x, _, _, _, rfl, ha, T.ex x hx, .ty _, T.val x hx, k⟩
abbrev sCode : Stmt := top 39
theorem scCode : FnScope ["_law_error", "_law_found", "_law_at"] ["_law_error"] (defScope sCode) := ⟨rfl, rfl, rfl, by decide +kernel, rfl, by decide +kernel, by decide +kernel⟩
theorem ok_code {f : Addr} {fd : FuncData} (F : FnP K "_law_code" sCode f fd) (T : IsF K mg) (L : Lib K mg) : FnOk P w K mg base CX0 1 f fd ["_law_error"] (spCode K) := by
  refine okN F scCode (fun vs H Q E h => ?_) (fun cdv A outer s H vs Q Ex hr h => ?_)
  · obtain ⟨_, _, rfl, _⟩ := h
    rfl
  · obtain ⟨a, x, rfl, hx, ha, k⟩ := h
    refine ⟨_, pss_cons (ps_set (i := 1) scCode.nd rfl (Or.inr rfl) (pe_lst (pa_cons (pe_callB call_isX (by rfl) T.fi (by decide +kernel) (pa_cons (pv 0) (pa_cons (pe_glob (v := .ref (ga K "InvalidEntry")) (by rfl) (T.gl "InvalidEntry" (n28_of (n27_at (i := 0) rfl))) rfl) pa_nil))) (pa_cons (pe_callB call_isX (by rfl) T.fi (by decide +kernel) (pa_cons (pv 0) (pa_cons (pe_glob (v := .ref (ga K "InvalidEntries")) (by rfl) (T.gl "InvalidEntries" (n28_of (n27_at (i := 1) rfl))) rfl) pa_nil))) (pa_cons (pe_callB call_isX (by rfl) T.fi (by decide +kernel) (pa_cons (pv 0) (pa_cons (pe_glob (v := .ref (ga K "InvalidRow")) (by rfl) (T.gl "InvalidRow" (n28_of (n27_at (i := 2) rfl))) rfl) pa_nil))) pa_nil)))))
      (pss_cons (ps_set (i := 1) scCode.nd rfl (Or.inr rfl) (pe_op op_cat (pv 1) (pe_lst (pa_cons (pe_callB call_isX (by rfl) T.fi (by decide +kernel) (pa_cons (pv 0) (pa_cons (pe_glob (v := .ref (ga K "InvalidRows")) (by rfl) (T.gl "InvalidRows" (n28_of (n27_at (i := 3) rfl))) rfl) pa_nil))) (pa_cons (pe_callB call_isX (by rfl) T.fi (by decide +kernel) (pa_cons (pv 0) (pa_cons (pe_glob (v := .ref (ga K "InvalidPanel")) (by rfl) (T.gl "InvalidPanel" (n28_of (n27_at (i := 4) rfl))) rfl) pa_nil))) (pa_cons (pe_callB call_isX (by rfl) T.fi (by decide +kernel) (pa_cons (pv 0) (pa_cons (pe_glob (v := .ref (ga K "InvalidField")) (by rfl) (T.gl "InvalidField" (n28_of (n27_at (i := 5) rfl))) rfl) pa_nil))) pa_nil))))))
      (pss_cons (ps_set (i := 1) scCode.nd rfl (Or.inr rfl) (pe_op op_cat (pv 1) (pe_lst (pa_cons (pe_callB call_isX (by rfl) T.fi (by decide +kernel) (pa_cons (pv 0) (pa_cons (pe_glob (v := .ref (ga K "UnknownEntry")) (by rfl) (T.gl "UnknownEntry" (n28_of (n27_at (i := 6) rfl))) rfl) pa_nil))) (pa_cons (pe_callB call_isX (by rfl) T.fi (by decide +kernel) (pa_cons (pv 0) (pa_cons (pe_glob (v := .ref (ga K "TakenEntry")) (by rfl) (T.gl "TakenEntry" (n28_of (n27_at (i := 7) rfl))) rfl) pa_nil))) (pa_cons (pe_callB call_isX (by rfl) T.fi (by decide +kernel) (pa_cons (pv 0) (pa_cons (pe_glob (v := .ref (ga K "InvalidLot")) (by rfl) (T.gl "InvalidLot" (n28_of (n27_at (i := 8) rfl))) rfl) pa_nil))) pa_nil))))))
      (pss_cons (ps_set (i := 1) scCode.nd rfl (Or.inr rfl) (pe_op op_cat (pv 1) (pe_lst (pa_cons (pe_callB call_isX (by rfl) T.fi (by decide +kernel) (pa_cons (pv 0) (pa_cons (pe_glob (v := .ref (ga K "InvalidLots")) (by rfl) (T.gl "InvalidLots" (n28_of (n27_at (i := 9) rfl))) rfl) pa_nil))) (pa_cons (pe_callB call_isX (by rfl) T.fi (by decide +kernel) (pa_cons (pv 0) (pa_cons (pe_glob (v := .ref (ga K "InvalidCount")) (by rfl) (T.gl "InvalidCount" (n28_of (n27_at (i := 10) rfl))) rfl) pa_nil))) (pa_cons (pe_callB call_isX (by rfl) T.fi (by decide +kernel) (pa_cons (pv 0) (pa_cons (pe_glob (v := .ref (ga K "InvalidTable")) (by rfl) (T.gl "InvalidTable" (n28_of (n27_at (i := 11) rfl))) rfl) pa_nil))) pa_nil))))))
      (pss_cons (ps_set (i := 1) scCode.nd rfl (Or.inr rfl) (pe_op op_cat (pv 1) (pe_lst (pa_cons (pe_callB call_isX (by rfl) T.fi (by decide +kernel) (pa_cons (pv 0) (pa_cons (pe_glob (v := .ref (ga K "InvalidTree")) (by rfl) (T.gl "InvalidTree" (n28_of (n27_at (i := 12) rfl))) rfl) pa_nil))) (pa_cons (pe_callB call_isX (by rfl) T.fi (by decide +kernel) (pa_cons (pv 0) (pa_cons (pe_glob (v := .ref (ga K "Unlike")) (by rfl) (T.gl "Unlike" (n28_of (n27_at (i := 13) rfl))) rfl) pa_nil))) (pa_cons (pe_callB call_isX (by rfl) T.fi (by decide +kernel) (pa_cons (pv 0) (pa_cons (pe_glob (v := .ref (ga K "Clash")) (by rfl) (T.gl "Clash" (n28_of (n27_at (i := 14) rfl))) rfl) pa_nil))) pa_nil))))))
      (pss_cons (ps_set (i := 1) scCode.nd rfl (Or.inr rfl) (pe_op op_cat (pv 1) (pe_lst (pa_cons (pe_callB call_isX (by rfl) T.fi (by decide +kernel) (pa_cons (pv 0) (pa_cons (pe_glob (v := .ref (ga K "InvalidBook")) (by rfl) (T.gl "InvalidBook" (n28_of (n27_at (i := 15) rfl))) rfl) pa_nil))) (pa_cons (pe_callB call_isX (by rfl) T.fi (by decide +kernel) (pa_cons (pv 0) (pa_cons (pe_glob (v := .ref (ga K "InvalidLine")) (by rfl) (T.gl "InvalidLine" (n28_of (n27_at (i := 16) rfl))) rfl) pa_nil))) (pa_cons (pe_callB call_isX (by rfl) T.fi (by decide +kernel) (pa_cons (pv 0) (pa_cons (pe_glob (v := .ref (ga K "InvalidRounds")) (by rfl) (T.gl "InvalidRounds" (n28_of (n27_at (i := 17) rfl))) rfl) pa_nil))) pa_nil))))))
      (pss_cons (ps_set (i := 1) scCode.nd rfl (Or.inr rfl) (pe_op op_cat (pv 1) (pe_lst (pa_cons (pe_callB call_isX (by rfl) T.fi (by decide +kernel) (pa_cons (pv 0) (pa_cons (pe_glob (v := .ref (ga K "InvalidChances")) (by rfl) (T.gl "InvalidChances" (n28_of (n27_at (i := 18) rfl))) rfl) pa_nil))) (pa_cons (pe_callB call_isX (by rfl) T.fi (by decide +kernel) (pa_cons (pv 0) (pa_cons (pe_glob (v := .ref (ga K "InvalidStewards")) (by rfl) (T.gl "InvalidStewards" (n28_of (n27_at (i := 19) rfl))) rfl) pa_nil))) (pa_cons (pe_callB call_isX (by rfl) T.fi (by decide +kernel) (pa_cons (pv 0) (pa_cons (pe_glob (v := .ref (ga K "LastRow")) (by rfl) (T.gl "LastRow" (n28_of (n27_at (i := 20) rfl))) rfl) pa_nil))) pa_nil))))))
      (pss_cons (ps_set (i := 1) scCode.nd rfl (Or.inr rfl) (pe_op op_cat (pv 1) (pe_lst (pa_cons (pe_callB call_isX (by rfl) T.fi (by decide +kernel) (pa_cons (pv 0) (pa_cons (pe_glob (v := .ref (ga K "InvalidLive")) (by rfl) (T.gl "InvalidLive" (n28_of (n27_at (i := 21) rfl))) rfl) pa_nil))) (pa_cons (pe_callB call_isX (by rfl) T.fi (by decide +kernel) (pa_cons (pv 0) (pa_cons (pe_glob (v := .ref (ga K "InvalidScript")) (by rfl) (T.gl "InvalidScript" (n28_of (n27_at (i := 22) rfl))) rfl) pa_nil))) (pa_cons (pe_callB call_isX (by rfl) T.fi (by decide +kernel) (pa_cons (pv 0) (pa_cons (pe_glob (v := .ref (ga K "InvalidLog")) (by rfl) (T.gl "InvalidLog" (n28_of (n27_at (i := 23) rfl))) rfl) pa_nil))) pa_nil))))))
      (pss_cons (ps_set (i := 1) scCode.nd rfl (Or.inr rfl) (pe_op op_cat (pv 1) (pe_lst (pa_cons (pe_callB call_isX (by rfl) T.fi (by decide +kernel) (pa_cons (pv 0) (pa_cons (pe_glob (v := .ref (ga K "InvalidText")) (by rfl) (T.gl "InvalidText" (n28_of (n27_at (i := 24) rfl))) rfl) pa_nil))) (pa_cons (pe_callB call_isX (by rfl) T.fi (by decide +kernel) (pa_cons (pv 0) (pa_cons (pe_glob (v := .ref (ga K "NothingToUndo")) (by rfl) (T.gl "NothingToUndo" (n28_of (n27_at (i := 25) rfl))) rfl) pa_nil))) (pa_cons (pe_callB call_isX (by rfl) T.fi (by decide +kernel) (pa_cons (pv 0) (pa_cons (pe_glob (v := .ref (ga K "NothingToRedo")) (by rfl) (T.gl "NothingToRedo" (n28_of (n27_at (i := 26) rfl))) rfl) pa_nil))) pa_nil))))))
      (pss_one (ps_ret (pe_lc (own := [("_law_at", 2)]) (g := gName 2) (tt := tB (tOp (rIxL K) (tVar 1) (tVar 2))) (te := tVar 2) rfl scCode.nd (pi_range1 rfl L.range (pa_cons (pe_callB call_len_seq (by rfl) L.len PySem.boot_len (pa_cons (pv 1) pa_nil)) pa_nil))
      (blkOk_by (N := ["_law_error", "_law_found", "_law_at"]) (sc := defScope sCode) (by decide +kernel)) (fun _ _ _ _ _ => pg_name (i := 2) scCode.nd rfl (Or.inl rfl)) (fun _ _ _ _ _ => pts_one (pt_val (pe_ix ix_list (pv 1) (pv 2) (fun _ _ => rfl))))
      (fun _ _ _ _ _ => pv 2)))))))))))), ?_⟩
    refine asg_run ?_
    refine is_lst T (ys := ["InvalidEntry", "InvalidEntries", "InvalidRow"]) (by rfl) hx ha (in27 (by decide +kernel)) (Nat.le_of_ble_eq_true rfl) fun D1 H1 L1 => ?_
    refine asg_run ?_
    refine is_cat T (zs := ["InvalidRows", "InvalidPanel", "InvalidField"]) (by rfl) (by rfl) hx ha L1 (in27 (by decide +kernel)) (Nat.le_of_ble_eq_true rfl) fun D2 H2 L2 => ?_
    refine asg_run ?_
    refine is_cat T (zs := ["UnknownEntry", "TakenEntry", "InvalidLot"]) (by rfl) (by rfl) hx ha L2 (in27 (by decide +kernel)) (Nat.le_of_ble_eq_true rfl) fun D3 H3 L3 => ?_
    refine asg_run ?_
    refine is_cat T (zs := ["InvalidLots", "InvalidCount", "InvalidTable"]) (by rfl) (by rfl) hx ha L3 (in27 (by decide +kernel)) (Nat.le_of_ble_eq_true rfl) fun D4 H4 L4 => ?_
    refine asg_run ?_
    refine is_cat T (zs := ["InvalidTree", "Unlike", "Clash"]) (by rfl) (by rfl) hx ha L4 (in27 (by decide +kernel)) (Nat.le_of_ble_eq_true rfl) fun D5 H5 L5 => ?_
    refine asg_run ?_
    refine is_cat T (zs := ["InvalidBook", "InvalidLine", "InvalidRounds"]) (by rfl) (by rfl) hx ha L5 (in27 (by decide +kernel)) (Nat.le_of_ble_eq_true rfl) fun D6 H6 L6 => ?_
    refine asg_run ?_
    refine is_cat T (zs := ["InvalidChances", "InvalidStewards", "LastRow"]) (by rfl) (by rfl) hx ha L6 (in27 (by decide +kernel)) (Nat.le_of_ble_eq_true rfl) fun D7 H7 L7 => ?_
    refine asg_run ?_
    refine is_cat T (zs := ["InvalidLive", "InvalidScript", "InvalidLog"]) (by rfl) (by rfl) hx ha L7 (in27 (by decide +kernel)) (Nat.le_of_ble_eq_true rfl) fun D8 H8 L8 => ?_
    refine asg_run ?_
    refine is_cat T (zs := ["InvalidText", "NothingToUndo", "NothingToRedo"]) (by rfl) (by rfl) hx ha L8 (in27 (by decide +kernel)) (Nat.le_of_ble_eq_true rfl) fun D9 H9 L9 => ?_
    obtain ⟨e1, s1, n1⟩ := L9
    have eb : (nm27.map fun y => V.bl (decide (x = y))) = (bsOf x).map V.bl := by
      unfold bsOf
      rw [List.map_map]
      rfl
    have e1b := e1.trans (congrArg (fun l => some (HO.lst l)) eb)
    have bl : (bsOf x).length = 27 := rfl
    refine ⟨_, rfl, D9, _, rfl, .inl (SqL.of e1b), _, rfl, by rw [List.length_map, bl]; decide, by rw [List.length_map, bl]; decide, fun D hD => ?_⟩
    rw [List.length_map, bl]
    refine lc_range (lo := 0) (n := 27) (fun i H' => H' D = some (.lst (((List.range i).filter fun j => (bsOf x).getD j false).map inte)) ∧ H' D9 = some (.lst ((bsOf x).map V.bl)) ∧ Same H H') ⟨upd_same, ?_, ?_⟩ ?_ ?_
    · rw [upd_ne (ne_of_none e1b hD)]
      exact e1b
    · intro b o e
      rw [upd_ne (ne_of_none (s1 _ _ e) hD)]
      exact s1 _ _ e
    · rintro i H' hi ⟨g1, g2, g3⟩
      have hib : i < (bsOf x).length := hi
      have gi : (bsOf x)[i]? = some ((bsOf x).getD i false) := by
        rw [List.getElem?_eq_getElem hib, List.getD_eq_getElem?_getD, List.getElem?_eq_getElem hib]
        rfl
      have ga0 : atI ((bsOf x).map V.bl) ((0 : Int) + (i : Int)) = some (V.bl ((bsOf x).getD i false)) := by
        rw [Int.zero_add]
        refine atI_nat ?_
        rw [List.getElem?_map, gi]
        rfl
      refine ⟨rfl, _, rfl, _, rfl, D9, _, _, _, rfl, rfl, SqL.of g2, ga0, (bsOf x).getD i false, rfl, ?_⟩
      have fl : (List.range i).length ≤ 27 := by rw [List.length_range]; omega
      have nD9 : D9 ≠ D := ne_of_none e1b hD
      cases hb : (bsOf x).getD i false with
      | true =>
        refine iteT ⟨_, rfl, _, g1, small1000 (Nat.le_trans (by rw [List.length_map]; exact List.length_filter_le _ _) (Nat.le_trans fl (by decide))), ?_, by rw [upd_ne nD9]; exact g2, fun b o e => by rw [upd_ne (ne_of_none (s1 _ _ e) hD)]; exact g3 _ _ e⟩
        rw [upd_same, List.range_succ, List.filter_append, List.map_append]
        simp only [List.filter_cons, hb, if_true, List.filter_nil, List.map_cons, List.map_nil, Int.zero_add]
        rfl
      | false =>
        refine iteF ⟨?_, g2, g3⟩
        rw [List.range_succ, List.filter_append]
        simp only [List.filter_cons, hb, List.filter_nil, Bool.false_eq_true, if_false, List.append_nil]
        exact g1
    · rintro H' ⟨g1, g2, g3⟩
      exact k D H' g1 g3 (s1.free hD)
end
end K01

set_option maxHeartbeats 4000000
namespace K01
open PySem PySem.Spec PyProof.Rows L2 G1
/-! ### data stands while the heap grows -/
mutual
theorem dp_same {K : PySem.W.Frag} {H H' : Hp} (s : Same H H') : ∀ (d : PyData) (v : V), Dp K H v d → Dp K H' v d
  | .none, v, h => by cases h; exact .non
  | .bool b, v, h => by cases h; exact .bl b
  | .int i, v, h => by cases h; exact .int i
  | .str x, v, h => by cases h; exact .str x
  | .list ds, v, h => by
    cases h with
    | lst h1 h2 => exact .lst (s.seq h1) (dps_same s ds _ h2)
  | .tuple ds, v, h => by
    cases h with
    | tup h1 h2 =>
      refine .tup ?_ (dps_same s ds _ h2)
      rcases h1 with (h1 | ⟨o, h1⟩) | h1
      · exact .inl (.inl (s _ _ h1))
      · exact .inl (.inr ⟨o, s _ _ h1⟩)
      · exact .inr h1
  | .dict _, v, h => by cases h
theorem dps_same {K : PySem.W.Frag} {H H' : Hp} (s : Same H H') : ∀ (ds : List PyData) (vs : List V), DpAll K H vs ds → DpAll K H' vs ds
  | [], vs, h => by cases h; exact .nil
  | d :: ds, vs, h => by
    cases h with
    | cons h1 h2 => exact .cons (dp_same s d _ h1) (dps_same s ds _ h2)
end
theorem rp_same {K : PySem.W.Frag} {H H' : Hp} {v : V} {d : PyData} (h : Rp K H v d) (s : Same H H') : Rp K H' v d := by
  cases h with
  | dp h => exact .dp (dp_same s _ _ h)
  | dct h => exact .dct (s _ _ h)
/-- a thing that can be shown -/
structure Shows (K : PySem.W.Frag) (H : Hp) (v : V) (d : PyData) : Prop where
  rp : Rp K H v d
  di : d.hasDict = false ∨ d = .dict []
  sh : d.showable = true
  dp : d.depth ≤ 60
  le : d.shown.length ≤ sizeLine
theorem Shows.same {K : PySem.W.Frag} {H H' : Hp} {v : V} {d : PyData} (h : Shows K H v d) (s : Same H H') : Shows K H' v d := ⟨rp_same h.rp s, h.di, h.sh, h.dp, h.le⟩
/-! ### the codes of all classes -/
def one (i : Nat) : PyData := .list [.int (i : Int)]
theorem ones_lay : ∀ l : List Nat, PyData.canLayAll0 (l.map one) = true
  | [] => by simp [PyData.canLayAll0]
  | i :: l => by simp [PyData.canLayAll0, one, PyData.canLay0, ones_lay l]
theorem ones_depth : ∀ l : List Nat, PyData.depthAll (l.map one) ≤ 2
  | [] => by simp [PyData.depthAll]
  | i :: l => by
    have h := ones_depth l
    simp only [List.map_cons, PyData.depthAll, one, PyData.depth]
    omega
theorem ones_eqv : ∀ l : List Nat, PyData.eqvAll (l.map one) (l.map one) = true
  | [] => by simp [PyData.eqvAll]
  | i :: l => by simp [PyData.eqvAll, one, PyData.eqv, ones_eqv l]
theorem ones_shaped (l : List Nat) : SeqAt.shaped (.list (l.map one)) = true := by
  have h := ones_depth l
  unfold SeqAt.shaped
  rw [Bool.and_eq_true]
  refine ⟨by simp only [PyData.canLay0]; exact ones_lay l, decide_eq_true ?_⟩
  simp only [PyData.depth]
  omega
theorem ones_same (l : List Nat) : PyData.eqv (.list (l.map one)) (.list (l.map one)) = true := by
  simp only [PyData.eqv]
  exact ones_eqv l
theorem code_at : ∀ i : Fin 25, codeOf (nm.getD i.1 "") = [i.1] := by decide +kernel
theorem nm_in : ∀ i : Fin 25, (nm.getD i.1 "") ∈ nm28 := by decide +kernel
def spRight (K : PySem.W.Frag) : Sp := fun vs H Q _ => ∃ (S : Addr) (as : List Addr) (v : V) (d : PyData), vs = [.ref S, .str d.shown] ∧ H S = some (.lst (as.map V.ref)) ∧ Errs H v as (nm.map (ga K)) ∧ Shows K H v d ∧
  ∀ H', Same H H' → Q (.bl true) H'
end K01

set_option maxHeartbeats 4000000
namespace K01
open PySem PySem.Spec PyProof.Rows L2 G1
theorem paired_at {α β : Type} {F : α → β → Prop} : ∀ {as : List α} {bs : List β} {i : Nat} {a : α}, Paired F as bs → as[i]? = some a → ∃ b, bs[i]? = some b ∧ F a b
  | _, _, 0, _, .cons r _, h => ⟨_, rfl, by cases h; exact r⟩
  | _, _, i + 1, _, .cons _ t, h => by
    obtain ⟨b, e, q⟩ := paired_at (i := i) t (by simpa using h)
    exact ⟨b, by simpa using e, q⟩
  | _, _, 0, _, .nil, h => by cases h
  | _, _, i + 1, _, .nil, h => by cases h
theorem err_at {K : PySem.W.Frag} {H : Hp} {v : V} {as : List Addr} {i : Nat} {a : Addr} (h : Errs H v as (nm.map (ga K))) (e : as[i]? = some a) : ∃ hi : i < 25, ErrAt H a (ga K (nm.getD i "")) v := by
  obtain ⟨C, hC, q⟩ := paired_at h e
  have hi : i < (nm.map (ga K)).length := (List.getElem?_eq_some_iff.mp hC).1
  refine ⟨hi, ?_⟩
  rw [List.getElem?_map] at hC
  have hi2 : i < nm.length := hi
  rw [List.getElem?_eq_getElem hi2] at hC
  rw [List.getD_eq_getElem?_getD, List.getElem?_eq_getElem hi2]
  have := Option.some.inj hC
  rw [← this] at q
  exact q
/-- lists of lists of one number -/
theorem dp_ones {K : PySem.W.Frag} {H : Hp} : ∀ (ls : List Addr) (k : Nat), (∀ (j : Nat) (l : Addr), ls[j]? = some l → H l = some (.lst [inte (k + j)])) → DpAll K H (ls.map V.ref) ((List.range' k ls.length).map one)
  | [], k, h => .nil
  | l :: ls, k, h => by
    refine .cons (.lst (SqL.of (h 0 l rfl)) (.cons (.int _) .nil)) ?_
    have q := dp_ones (K := K) (H := H) ls (k + 1) fun j l' e => by
      have z := h (j + 1) l' (by simpa using e)
      rw [show k + 1 + j = k + (j + 1) by omega]
      exact z
    exact q
def OneL (H0 H : Hp) (D : Addr) (n : Nat) : Prop := ∃ ls : List Addr, ls.length = n ∧ H D = some (.lst (ls.map V.ref)) ∧ (∀ (j : Nat) (l : Addr), ls[j]? = some l → H l = some (.lst [inte j]) ∧ l ≠ D) ∧ Same H0 H
theorem OneL.dp {K : PySem.W.Frag} {H0 H H' : Hp} {D : Addr} {n : Nat} (h : OneL H0 H D n) (s : Same H H') : Dp K H' (.ref D) (.list ((List.range n).map one)) := by
  obtain ⟨ls, hl, hD, hj, _⟩ := h
  refine .lst (SqL.of (s _ _ hD)) ?_
  rw [List.range_eq_range', ← hl]
  exact dp_ones ls 0 fun j l e => by
    rw [Nat.zero_add]
    exact s _ _ (hj j l e).1
theorem OneL.new {H0 H : Hp} {D : Addr} (hD : H0 D = none) : OneL H0 (upd H0 D (.lst [])) D 0 := ⟨[], rfl, upd_same, fun j l e => (by cases e), fun b o e => by rw [upd_ne (ne_of_none e hD)]; exact e⟩
theorem OneL.more {H0 H H2 : Hp} {D l : Addr} {n : Nat} (h : OneL H0 H D n) (n0 : H0 D = none) (s : Same H H2) (hl : H2 l = some (.lst [inte n])) (nl : H l = none) (hn : n ≤ 100) :
    ∃ acc, H2 D = some (.lst acc) ∧ acc.length < sizeLine ∧ OneL H0 (upd H2 D (.lst (acc ++ [.ref l]))) D (n + 1) := by
  obtain ⟨ls, h1, h2, h3, h4⟩ := h
  have nlD : l ≠ D := fun q => by
    rw [q, h2] at nl
    cases nl
  refine ⟨ls.map V.ref, s _ _ h2, small1000 (by rw [List.length_map]; omega), ls ++ [l], by simp [h1], by rw [upd_same, List.map_append]; rfl, fun j l' e => ?_, fun b o e => ?_⟩
  · by_cases hj : j < ls.length
    · rw [List.getElem?_append_left hj] at e
      obtain ⟨z1, z2⟩ := h3 j l' e
      exact ⟨by rw [upd_ne z2]; exact s _ _ z1, z2⟩
    · rw [List.getElem?_append_right (by omega)] at e
      have ej : j = n := by
        have q := (List.getElem?_eq_some_iff.mp e).1
        simp at q
        omega
      subst ej
      rw [h1, Nat.sub_self] at e
      have el : l = l' := by simpa using e
      subst el
      exact ⟨by rw [upd_ne nlD]; exact hl, nlD⟩
  · rw [upd_ne (ne_of_none e n0)]
    exact s _ _ (h4 _ _ e)
section
variable {P : Program} {w : World} {K : PySem.W.Frag} {mg : Str → Option Value} {base : Heap}
abbrev sRight : Stmt := top 41
theorem scRight : FnScope ["_law_some", "_law_noted", "_law_error", "_law_at"] ["_law_some", "_law_noted"] (defScope sRight) := ⟨rfl, rfl, rfl, by decide +kernel, rfl, by decide +kernel, by decide +kernel⟩
theorem ok_right {f fC fE : Addr} {fd fdC fdE : FuncData} (F : FnP K "_law_right" sRight f fd) (T : IsF K mg) (L : Lib K mg) (lr : mg "repr" = none) (XC : ∀ x ∈ nm, ∃ fI, EC K (ga K x) fI)
    (FC : FnP K "_law_code" sCode fC fdC) (gC : mg "_law_code" = some (.ref fC)) (GC : FnOk P w K mg base CX0 1 fC fdC ["_law_error"] (spCode K))
    (FE : FnP K "_law_is_error" sIsE fE fdE) (gE : mg "_law_is_error" = some (.ref fE)) (GE : FnOk P w K mg base CX0 1 fE fdE ["_law_error"] (spIsE K)) :
    FnG P w K mg base 2 f fd ["_law_some", "_law_noted"] (spRight K) := by
  have bC : Binds K fdC ["_law_error"] [] := FC.bindsN fun _ _ _ _ _ _ us hl => match us, hl with | [_], _ => rfl
  have bE : Binds K fdE ["_law_error"] [] := FE.bindsN fun _ _ _ _ _ _ us hl => match us, hl with | [_], _ => rfl
  refine gdN F scRight (fun vs H Q E h => ?_) (fun cdv A outer s H vs Q Ex hg hr h => ?_)
  · obtain ⟨_, _, _, _, rfl, _⟩ := h
    rfl
  · obtain ⟨S, as, v, d, rfl, hS, hE, hv, k⟩ := h
    have hu := hr.units
    refine ⟨_, pss_cons (ps_if (pt_cmpR (op_neD hu)
        (pe_lc (own := [("_law_error", 2)]) (g := gName 2) (tt := tYes) (te := tCall (spCode K) [] E0 (tCons (tVar 2) tNil)) rfl scRight.nd (pi_list (pv 0))
          (blkOk_by (N := ["_law_some", "_law_noted", "_law_error", "_law_at"]) (sc := defScope sRight) (by decide +kernel)) (fun _ _ _ _ _ => pg_name (i := 2) scRight.nd rfl (Or.inl rfl)) (fun _ _ _ _ _ => pts_nil)
          (fun _ _ _ _ _ => pe_call GC hr rfl gC FC.kp bC .nil pass0 (pa_cons (pv 2) pa_nil)))
        (pe_lc (own := [("_law_at", 3)]) (g := gName 3) (tt := tYes) (te := tLst (tCons (tVar 3) tNil)) rfl scRight.nd (pi_range1 rfl L.range (pa_cons pe_int pa_nil))
          (blkOk_by (N := ["_law_some", "_law_noted", "_law_error", "_law_at"]) (sc := defScope sRight) (by decide +kernel)) (fun _ _ _ _ _ => pg_name (i := 3) scRight.nd rfl (Or.inl rfl)) (fun _ _ _ _ _ => pts_nil)
          (fun _ _ _ _ _ => pe_lst (pa_cons (pv 3) pa_nil))) (nomark _)) (pss_one (ps_ret pe_bl)) pss_nil)
      (pss_one (ps_ret (pe_cmpR (op_eqD hu)
        (pe_lc (own := [("_law_error", 2)]) (g := gName 2) (tt := tOr (tNot (tB (tCall (spIsE K) [] E0 (tCons (tVar 2) tNil)))) (tTest (tOp rNe (tCB (rRepr K) (tCons (tVal K (tVar 2)) tNil)) (tVar 1)))) (te := tVar 2) rfl scRight.nd (pi_list (pv 0))
          (blkOk_by (N := ["_law_some", "_law_noted", "_law_error", "_law_at"]) (sc := defScope sRight) (by decide +kernel)) (fun _ _ _ _ _ => pg_name (i := 2) scRight.nd rfl (Or.inl rfl))
          (fun _ _ _ _ _ => pts_one (PW.pt (pw_or (pt_not (pt_val (pe_call GE hr rfl gE FE.kp bE .nil pass0 (pa_cons (pv 2) pa_nil))))
            (pw_or1 (pt_cmpR op_ne (pe_callB (call_repr hg hu) rfl lr (by decide +kernel) (pa_cons (pe_val (pv 2)) pa_nil)) (pv 1) (nomark _))))))
          (fun _ _ _ _ _ => pv 2)) (pe_lst pa_nil) (nomark _)))), ?_⟩
    have al : as.length = 25 := hE.len
    refine ⟨_, rfl, S, rfl, ⟨_, SqL.of hS⟩, fun D hD => lc_list (K := K) (a := S) (xs := as.map V.ref) (fun i H' => OneL H H' D i) (OneL.new (H := H) hD) (fun i H' _ h => h.choose_spec.2.2.2.seq (SqL.of hS)) ?_ ?_⟩
    · rintro i y H' hi h
      rw [List.getElem?_map] at hi
      obtain ⟨a, ha, rfl⟩ := Option.map_eq_some_iff.mp hi
      obtain ⟨hi25, ea⟩ := err_at hE ha
      have sm : Same H H' := h.choose_spec.2.2.2
      refine ⟨rfl, _, rfl, a, nm.getD i "", rfl, nm_in ⟨i, hi25⟩, (ea.same sm).any, fun l H2 hl s2 nl => ?_⟩
      rw [code_at ⟨i, hi25⟩] at hl
      exact h.more hD s2 hl nl (by omega)
    · rintro H1 h1
      rw [List.length_map, al] at h1
      have s1 : Same H H1 := h1.choose_spec.2.2.2
      refine ⟨25, rfl, by decide, by decide, fun D2 hD2 => lc_range (lo := 0) (n := 25) (fun i H' => OneL H1 H' D2 i) (OneL.new (H := H1) hD2) ?_ ?_⟩
      · rintro i H' hi h
        refine ⟨rfl, _, rfl, by show 1 ≤ sizeLine; decide, fun p hp => ?_⟩
        refine h.more hD2 (s := fun b o e => by rw [upd_ne (ne_of_none e hp)]; exact e) (by rw [upd_same, Int.zero_add]; rfl) hp (by omega)
      · rintro H2 h2
        have s2 : Same H1 H2 := h2.choose_spec.2.2.2
        refine ⟨_, _, h1.dp s2, h2.dp (Same.refl _), ones_shaped _, ones_shaped _, _, rfl, ?_⟩
        rw [ones_same]
        refine iteF ?_
        have sH : Same H H2 := s1.trans s2
        refine ⟨_, rfl, S, rfl, ⟨_, SqL.of (sH _ _ hS)⟩, fun D3 hD3 => lc_list (K := K) (a := S) (xs := as.map V.ref) (fun i H' => H' D3 = some (.lst []) ∧ Same H2 H') ⟨upd_same, fun b o e => by rw [upd_ne (ne_of_none e hD3)]; exact e⟩
          (fun i H' _ h => h.2.seq (SqL.of (sH _ _ hS))) ?_ ?_⟩
        · rintro i y H' hi ⟨g1, g2⟩
          rw [List.getElem?_map] at hi
          obtain ⟨a, ha, rfl⟩ := Option.map_eq_some_iff.mp hi
          obtain ⟨hi25, ea⟩ := err_at hE ha
          have ea' := (ea.same sH).same g2
          obtain ⟨fI, hX⟩ := XC (nm.getD i "") (List.mem_of_getElem? (i := i) (by rw [List.getD_eq_getElem?_getD, List.getElem?_eq_getElem (show i < nm.length from hi25)]; rfl))
          have hv' := (hv.same sH).same g2
          refine ⟨rfl, _, rfl, a, nm.getD i "", rfl, nm_in ⟨i, hi25⟩, ea'.any, true, rfl, ?_⟩
          refine iteF ⟨_, rfl, a, _, fI, v, rfl, ea', hX, v, d, rfl, hv'.rp, hv'.di, hv'.sh, hv'.dp, hv'.le, _, rfl, rfl, _, rfl, ?_⟩
          exact iteNS rfl ⟨g1, g2⟩
        · rintro H3 ⟨g1, g2⟩
          refine ⟨Nat.zero_le _, fun p hp => ?_⟩
          have s3 : Same H3 (upd H3 p (.lst [])) := fun b o e => by rw [upd_ne (ne_of_none e hp)]; exact e
          refine ⟨_, _, .lst (SqL.of (s3 _ _ g1)) .nil, .lst (SqL.of upd_same) .nil, ones_shaped [], ones_shaped [], ?_⟩
          rw [show PyData.eqv (.list []) (.list []) = true from ones_same []]
          exact k _ ((sH.trans g2).trans s3)
end
end K01

set_option maxHeartbeats 4000000
namespace K01
open PySem PySem.Spec PyProof.Rows L2 G1
/-- what repr can show, small -/
structure Fine (d : PyData) : Prop where
  a : PyData.canLay0 d = true
  b : PyData.depth d ≤ 10
  c : PyData.weight d ≤ 1000
  e : d.intsShort 13 = true
  f : d.showable = true
  g : d.hasDict = false
theorem Fine.le {d : PyData} (h : Fine d) : d.shown.length ≤ sizeLine := by
  have l : PyData.layable0 d = true := by
    unfold PyData.layable0
    rw [Bool.and_eq_true, Bool.and_eq_true]
    exact ⟨⟨h.a, decide_eq_true (Nat.le_trans h.b (by decide))⟩, decide_eq_true (Nat.le_trans h.c (by decide))⟩
  exact Nat.le_trans (shown_le13 l h.e) (by decide)
theorem Fine.shows {K : PySem.W.Frag} {H : Hp} {v : V} {d : PyData} (h : Fine d) (r : Dp K H v d) : Shows K H v d := ⟨.dp r, .inl h.g, h.f, Nat.le_trans h.b (by decide), h.le⟩
theorem short1 : decide ((PyData.shown (.int 1)).length ≤ 13) = true ∧ decide ((PyData.shown (.int 0)).length ≤ 13) = true ∧ decide (((1 : Int).natAbs).log2 < 1920) = true ∧ decide (((0 : Int).natAbs).log2 < 1920) = true := by decide +kernel
def later : PyData := .str "later"
theorem strOk_of {z : Str} (h : Letters z) : PyData.strOk z = true := by
  unfold PyData.strOk
  rw [Array.all_eq_true_iff_forall_mem]
  intro c hc
  have := h c (Array.mem_toList_iff.mpr hc)
  exact decide_eq_true (by omega)
theorem later_ok : PyData.strOk ("later" : Str) = true ∧ PyData.strOk ("" : Str) = true := by decide +kernel
theorem later_size : ("later" : Str).cps.size = 5 ∧ ("" : Str).cps.size = 0 := by decide +kernel
structure FineN (d : PyData) (n w : Nat) : Prop where
  a : PyData.canLay0 d = true
  b : PyData.depth d ≤ n
  c : PyData.weight d ≤ w
  e : d.intsShort 13 = true
  f : d.showable = true
  g : d.hasDict = false
structure FineAll (ds : List PyData) (n w : Nat) : Prop where
  a : PyData.canLayAll0 ds = true
  b : PyData.depthAll ds ≤ n
  c : PyData.weightAll ds ≤ w
  e : PyData.intsShortAll 13 ds = true
  f : PyData.showableAll ds = true
  g : PyData.hasDictAll ds = false
theorem FineN.fine {d : PyData} {n w : Nat} (h : FineN d n w) (hn : n ≤ 10) (hw : w ≤ 1000) : Fine d := ⟨h.a, Nat.le_trans h.b hn, Nat.le_trans h.c hw, h.e, h.f, h.g⟩
theorem FineAll.nil (n w : Nat) : FineAll [] n w := by
  constructor <;> simp [PyData.canLayAll0, PyData.depthAll, PyData.weightAll, PyData.intsShortAll, PyData.showableAll, PyData.hasDictAll]
theorem FineAll.cons {d : PyData} {ds : List PyData} {n w v : Nat} (h : FineN d n w) (k : FineAll ds n v) : FineAll (d :: ds) n (w + 1 + v) := by
  obtain ⟨a1, a2, a3, a4, a5, a6⟩ := h
  obtain ⟨b1, b2, b3, b4, b5, b6⟩ := k
  constructor <;> simp only [PyData.canLayAll0, PyData.depthAll, PyData.weightAll, PyData.intsShortAll, PyData.showableAll, PyData.hasDictAll, a1, a4, a5, a6, b1, b4, b5, b6, Bool.and_self, Bool.or_self] <;> omega
theorem FineAll.list {ds : List PyData} {n w : Nat} (h : FineAll ds n w) : FineN (.list ds) (n + 1) w := by
  obtain ⟨a1, a2, a3, a4, a5, a6⟩ := h
  constructor <;> simp only [PyData.canLay0, PyData.depth, PyData.weight, PyData.intsShort, PyData.showable, PyData.hasDict, a1, a4, a5, a6] <;> omega
theorem FineAll.tuple {ds : List PyData} {n w : Nat} (h : FineAll ds n w) : FineN (.tuple ds) (n + 1) w := by
  obtain ⟨a1, a2, a3, a4, a5, a6⟩ := h
  constructor <;> simp only [PyData.canLay0, PyData.depth, PyData.weight, PyData.intsShort, PyData.showable, PyData.hasDict, a1, a4, a5, a6] <;> omega
theorem fn_str {z : Str} (n : Nat) (h : PyData.strOk z = true) (hl : z.length ≤ 8) : FineN (.str z) n 8 := by
  have hl' : z.cps.size ≤ 8 := hl
  constructor <;> simp only [PyData.canLay0, PyData.depth, PyData.weight, PyData.intsShort, PyData.showable, PyData.hasDict, h] <;> omega
theorem fn_int (n : Nat) {i : Int} (h : i = 0 ∨ i = 1) : FineN (.int i) n 8 := by
  have s1 := short1.1
  have s2 := short1.2.1
  have s3 := short1.2.2.1
  have s4 := short1.2.2.2
  rcases h with rfl | rfl <;> constructor <;> simp [PyData.canLay0, PyData.depth, PyData.weight, PyData.intsShort, PyData.showable, PyData.hasDict, s1, s2, s3, s4] <;> first | done | (simpa using s1) | (simpa using s2) | decide +kernel
theorem fn_none (n : Nat) : FineN .none n 8 := by
  constructor <;> simp [PyData.canLay0, PyData.depth, PyData.weight, PyData.intsShort, PyData.showable, PyData.hasDict]
theorem fn_bool (n : Nat) (b : Bool) : FineN (.bool b) n 8 := by
  constructor <;> simp [PyData.canLay0, PyData.depth, PyData.weight, PyData.intsShort, PyData.showable, PyData.hasDict]
theorem fn_later (n : Nat) : FineN later n 8 := fn_str n later_ok.1 (by decide +kernel)
theorem FineAll.app {ds : List PyData} {n w : Nat} (h : FineAll ds n w) : ∃ w', w' ≤ w + 9 ∧ FineAll (ds ++ [later]) n w' := by
  induction ds generalizing w with
  | nil => exact ⟨8 + 1 + 0, by omega, .cons (fn_later n) (.nil n 0)⟩
  | cons d ds ih =>
    obtain ⟨a1, a2, a3, a4, a5, a6⟩ := h
    simp only [PyData.canLayAll0, PyData.depthAll, PyData.weightAll, PyData.intsShortAll, PyData.showableAll, PyData.hasDictAll, Bool.and_eq_true, Bool.or_eq_false_iff] at a1 a2 a3 a4 a5 a6
    have h1 : FineN d n (PyData.weight d) := ⟨a1.1, by omega, Nat.le_refl _, a4.1, a5.1, a6.1⟩
    have h2 : FineAll ds n (PyData.weightAll ds) := ⟨a1.2, by omega, Nat.le_refl _, a4.2, a5.2, a6.2⟩
    obtain ⟨w', hw, h3⟩ := ih h2
    exact ⟨_, by omega, .cons h1 h3⟩
/-- a list of the law's own, at l, with items that do not hold it -/
structure Lst (K : PySem.W.Frag) (H : Hp) (v : V) (d : PyData) (l : Addr) (xs : List V) (ds : List PyData) : Prop where
  v : v = .ref l
  d : d = .list ds
  h : H l = some (.lst xs)
  le : xs.length ≤ 100
  its : DpAll K (delH H l) xs ds
  fa : FineAll ds 9 100
/-- a thing of the law's menus -/
structure Thing (K : PySem.W.Frag) (H : Hp) (v : V) (d : PyData) : Prop where
  sh : Shows K H v d
  ty : ∃ (t : Value) (b : Bool), TyX K H v t ∧ PySem.W.kitOne K t (.type "list") = some b ∧ (b = true → ∃ l xs ds, Lst K H v d l xs ds)
end K01

set_option maxHeartbeats 8000000
namespace K01
open PySem PySem.Spec PyProof.Rows L2 G1
/-! ### things -/
theorem delH_sub {H : Hp} {l : Addr} : Same (delH H l) H := fun b o e => by
  by_cases q : b = l
  · rw [q, delH_same] at e
    cases e
  · rw [delH_ne q] at e
    exact e
theorem delH_mono {H H' : Hp} {l : Addr} (s : Same H H') : Same (delH H l) (delH H' l) := fun b o e => by
  by_cases q : b = l
  · rw [q, delH_same] at e
    cases e
  · rw [delH_ne q] at e ⊢
    exact s _ _ e
theorem delH_upd {H : Hp} {l : Addr} {o : HO} : Same (delH H l) (upd H l o) := fun b u e => by
  by_cases q : b = l
  · rw [q, delH_same] at e
    cases e
  · rw [delH_ne q] at e
    rw [upd_ne q]
    exact e
theorem Lst.same {K : PySem.W.Frag} {H H' : Hp} {v : V} {d : PyData} {l : Addr} {xs : List V} {ds : List PyData} (h : Lst K H v d l xs ds) (s : Same H H') : Lst K H' v d l xs ds :=
  ⟨h.v, h.d, s _ _ h.h, h.le, dps_same (delH_mono s) _ _ h.its, h.fa⟩
/-- what is known of a thing, while the heap grows -/
structure Thg (K : PySem.W.Frag) (H : Hp) (v : V) (d : PyData) : Prop where
  sh : Shows K H v d
  ty : ∃ (t : Value) (b : Bool), (∀ H', Same H H' → TyX K H' v t) ∧ PySem.W.kitOne K t (.type "list") = some b ∧ (b = true → ∃ l xs ds, Lst K H v d l xs ds)
theorem Thg.same {K : PySem.W.Frag} {H H' : Hp} {v : V} {d : PyData} (h : Thg K H v d) (s : Same H H') : Thg K H' v d := by
  obtain ⟨h1, t, b, h2, h3, h4⟩ := h
  exact ⟨h1.same s, t, b, fun H2 s2 => h2 H2 (s.trans s2), h3, fun e => by
    obtain ⟨l, xs, ds, q⟩ := h4 e
    exact ⟨l, xs, ds, q.same s⟩⟩
theorem not_list {K : PySem.W.Frag} {T : String} (h : kitB T "list" = some false) : PySem.W.kitOne K (.type T) (.type "list") = some false := kit_ty h
theorem tg_flat {K : PySem.W.Frag} {H : Hp} {v : V} {d : PyData} {T : String} (f : Fine d) (r : Dp K H v d) (t : ∀ H', TyX K H' v (.type T)) (n : kitB T "list" = some false) : Thg K H v d :=
  ⟨f.shows r, .type T, false, fun H' _ => t H', not_list n, fun e => nomatch e⟩
theorem tg_lst {K : PySem.W.Frag} {H : Hp} {l : Addr} {xs : List V} {ds : List PyData} (h : H l = some (.lst xs)) (le : xs.length ≤ 100) (i : DpAll K (delH H l) xs ds) (f : FineAll ds 9 100) : Thg K H (.ref l) (.list ds) :=
  ⟨(f.list.fine (by decide) (by decide)).shows (.lst (SqL.of h) (dps_same delH_sub _ _ i)), .type "list", true, fun H' s => .base (.lst (s _ _ h)), kit_ty (by decide +kernel), fun _ => ⟨l, xs, ds, rfl, rfl, h, le, i, f⟩⟩
theorem tg_tup {K : PySem.W.Frag} {H : Hp} {t : Addr} {xs : List V} {ds : List PyData} (h : H t = some (.tup xs)) (i : DpAll K H xs ds) (f : FineAll ds 9 100) : Thg K H (.ref t) (.tuple ds) :=
  ⟨(f.tuple.fine (by decide) (by decide)).shows (.tup (SqT.of h) i), .type "tuple", false, fun H' s => .base (.tup (s _ _ h)), kit_ty (by decide +kernel), fun e => nomatch e⟩
theorem dict0 : (PyData.dict []).showable = true ∧ (PyData.dict []).depth ≤ 60 ∧ (PyData.dict []).shown.length ≤ sizeLine := by decide +kernel
theorem tg_dct {K : PySem.W.Frag} {H : Hp} {t : Addr} (h : H t = some (.dK [])) : Thg K H (.ref t) (.dict []) :=
  ⟨⟨.dct h, .inr rfl, dict0.1, dict0.2.1, dict0.2.2⟩, .type "dict", false, fun H' s => .base (.dK (s _ _ h)), kit_ty (by decide +kernel), fun e => nomatch e⟩
end K01

set_option maxHeartbeats 8000000
namespace K01
open PySem PySem.Spec PyProof.Rows L2 G1
theorem up100 {ds : List PyData} {w : Nat} (h : FineAll ds 9 w) (hw : w ≤ 100) : FineAll ds 9 100 := ⟨h.a, h.b, Nat.le_trans h.c hw, h.e, h.f, h.g⟩
theorem tg_str {K : PySem.W.Frag} {H : Hp} {z : Str} (h : PyData.strOk z = true) (hl : z.length ≤ 8) : Thg K H (.str z) (.str z) :=
  tg_flat ((fn_str 0 h hl).fine (by decide) (by decide)) (.str z) (fun _ => .base (.str z)) (by decide +kernel)
theorem tg_int0 {K : PySem.W.Frag} {H : Hp} : Thg K H (.int 0) (.int 0) := tg_flat ((fn_int 0 (.inl rfl)).fine (by decide) (by decide)) (.int 0) (fun _ => .base (.int 0)) (by decide +kernel)
theorem tg_bool {K : PySem.W.Frag} {H : Hp} (b : Bool) : Thg K H (.bl b) (.bool b) := tg_flat ((fn_bool 0 b).fine (by decide) (by decide)) (.bl b) (fun _ => .base (.bl b)) (by decide +kernel)
theorem tg_none {K : PySem.W.Frag} {H : Hp} : Thg K H .non .none := tg_flat ((fn_none 0).fine (by decide) (by decide)) .non (fun _ => .base .non) (by decide +kernel)
theorem tg_nil {K : PySem.W.Frag} {H : Hp} {l : Addr} (h : H l = some (.lst [])) : Thg K H (.ref l) (.list []) := tg_lst h (Nat.zero_le _) .nil (up100 (.nil 9 0) (by decide))
theorem tg_tnil {K : PySem.W.Frag} {H : Hp} {l : Addr} (h : H l = some (.tup [])) : Thg K H (.ref l) (.tuple []) := tg_tup h .nil (up100 (.nil 9 0) (by decide))
theorem tg_w1 {K : PySem.W.Frag} {H : Hp} {z : Str} {l : Addr} (ok : PyData.strOk z = true) (zl : z.length ≤ 8) (h : H l = some (.lst [.str z])) : Thg K H (.ref l) (.list [.str z]) :=
  tg_lst h (Nat.le_of_ble_eq_true rfl) (.cons (.str z) .nil) (up100 (.cons (fn_str 9 ok zl) (.nil 9 0)) (by decide))
theorem tg_w2 {K : PySem.W.Frag} {H : Hp} {z : Str} {l : Addr} (ok : PyData.strOk z = true) (zl : z.length ≤ 8) (h : H l = some (.tup [.str z, .int 1])) : Thg K H (.ref l) (.tuple [.str z, .int 1]) :=
  tg_tup h (.cons (.str z) (.cons (.int 1) .nil)) (up100 (.cons (fn_str 9 ok zl) (.cons (fn_int 9 (.inr rfl)) (.nil 9 0))) (by decide))
theorem tg_w3 {K : PySem.W.Frag} {H : Hp} {z : Str} {l t m : Addr} (ok : PyData.strOk z = true) (zl : z.length ≤ 8) (h : H l = some (.lst [.ref t])) (ht : H t = some (.tup [.str z, .ref m])) (hm : H m = some (.lst [])) : Thg K H (.ref l) (.list [.tuple [.str z, .list []]]) := by
  have n1 : t ≠ l := ne_of ht h (by intro q; cases q)
  have n2 : m ≠ l := ne_of hm h (by intro q; cases q)
  refine tg_lst h (Nat.le_of_ble_eq_true rfl) (.cons (.tup (SqT.of (by rw [delH_ne n1]; exact ht)) (.cons (.str z) (.cons (.lst (SqL.of (by rw [delH_ne n2]; exact hm)) .nil) .nil))) .nil) ?_
  exact up100 (.cons ((FineAll.cons (fn_str 8 ok zl) (.cons (FineAll.nil 7 0).list (.nil 8 0))).tuple) (.nil 9 0)) (by decide)
theorem tg_w4 {K : PySem.W.Frag} {H : Hp} {z : Str} {l t m : Addr} (ok : PyData.strOk z = true) (zl : z.length ≤ 8) (h : H l = some (.lst [.ref t])) (ht : H t = some (.lst [.str z, .ref m])) (hm : H m = some (.tup [])) : Thg K H (.ref l) (.list [.list [.str z, .tuple []]]) := by
  have n1 : t ≠ l := ne_of ht h (by intro q; cases q)
  have n2 : m ≠ l := ne_of hm h (by intro q; cases q)
  refine tg_lst h (Nat.le_of_ble_eq_true rfl) (.cons (.lst (SqL.of (by rw [delH_ne n1]; exact ht)) (.cons (.str z) (.cons (.tup (SqT.of (by rw [delH_ne n2]; exact hm)) .nil) .nil))) .nil) ?_
  exact up100 (.cons ((FineAll.cons (fn_str 8 ok zl) (.cons (FineAll.nil 7 0).tuple (.nil 8 0))).list) (.nil 9 0)) (by decide)
theorem dps_app {K : PySem.W.Frag} {H : Hp} : ∀ {xs : List V} {ds : List PyData} {v : V} {d : PyData}, DpAll K H xs ds → Dp K H v d → DpAll K H (xs ++ [v]) (ds ++ [d])
  | _, _, _, _, .nil, h => .cons h .nil
  | _, _, _, _, .cons a b, h => .cons a (dps_app b h)
theorem err_upd {H : Hp} {a C l : Addr} {v : V} {xs : List V} {o : HO} (h : ErrAt H a C v) (hl : H l = some (.lst xs)) : ErrAt (upd H l o) a C v := by
  obtain ⟨d, h1, h2⟩ := h
  have n1 : a ≠ l := ne_of h1 hl (by intro q; cases (show HO.ext _ = HO.lst xs from q))
  have n2 : d ≠ l := ne_of h2 hl (by intro q; cases (show HO.ext _ = HO.lst xs from q))
  exact ⟨d, by rw [upd_ne n1]; exact h1, by rw [upd_ne n2]; exact h2⟩
theorem errs_upd {H : Hp} {l : Addr} {v : V} {xs : List V} {o : HO} {as Cs : List Addr} (h : Errs H v as Cs) (hl : H l = some (.lst xs)) : Errs (upd H l o) v as Cs := L2.Paired.mapP h fun _ _ e => err_upd e hl
/-- the thing with 'later' behind it -/
theorem shows_later {K : PySem.W.Frag} {H : Hp} {l : Addr} {xs : List V} {ds : List PyData} (its : DpAll K (delH H l) xs ds) (fa : FineAll ds 9 100) :
    Shows K (upd H l (.lst (xs ++ [.str "later"]))) (.ref l) (.list (ds ++ [later])) := by
  obtain ⟨w', hw, f⟩ := fa.app
  refine (f.list.fine (by decide) (by omega)).shows (.lst (SqL.of upd_same) ?_)
  exact dps_app (dps_same delH_upd _ _ its) (.str _)
end K01

set_option maxHeartbeats 8000000
namespace K01
open PySem PySem.Spec PyProof.Rows L2 G1
theorem sn {H : Hp} {p : Addr} {o : HO} (h : H p = none) : Same H (upd H p o) := fun b u e => by
  rw [upd_ne (ne_of_none e h)]
  exact e
theorem but_get {p b : Addr} {H H' : Hp} {o c : HO} (B : But p H H') (hp : H p = some c) (hb : H b = some o) (n : o ≠ c) : H' b = some o := B b o (fun q => by
  rw [q, hp] at hb
  exact n (Option.some.inj hb).symm) hb
theorem d_in {H : Hp} {l x : Addr} {o c : HO} (hl : H l = some c) (hx : H x = some o) (n : o ≠ c) : delH H l x = some o := by
  rw [delH_ne (fun q => by
    rw [q, hl] at hx
    exact n (Option.some.inj hx).symm)]
  exact hx
theorem none_shown : PyData.none.shown = ("None" : Str) := by simp only [PyData.shown]
theorem code25 : codeOf "NothingToUndo" = [25] := by decide +kernel
theorem code26 : codeOf "NothingToRedo" = [26] := by decide +kernel
theorem codeS : codeOf "ShowError" = [] := by decide +kernel
def spLaw (K : PySem.W.Frag) : Sp := fun vs H Q _ => ∃ (a : Addr) (ns : List Int), vs = [.ref a] ∧ SqL K H a (ns.map V.int) ∧ ∀ H', Q (.bl true) H'
/-- a def of the text, where it stands, what it promises -/
structure Df (P : Program) (w : World) (K : PySem.W.Frag) (mg : Str → Option Value) (base : Heap) (k : Nat) (x : Str) (st : Stmt) (ps : List Str) (sp : Sp) : Prop where
  ex : ∃ (f : Addr) (fd : FuncData), FnP K x st f fd ∧ mg x = some (.ref f) ∧ FnOk P w K mg base CX0 k f fd ps sp ∧ Binds K fd ps []
structure DfG (P : Program) (w : World) (K : PySem.W.Frag) (mg : Str → Option Value) (base : Heap) (k : Nat) (x : Str) (st : Stmt) (ps : List Str) (sp : Sp) : Prop where
  ex : ∃ (f : Addr) (fd : FuncData), FnP K x st f fd ∧ mg x = some (.ref f) ∧ FnG P w K mg base k f fd ps sp ∧ Binds K fd ps []
theorem pe_df {X : Cx} {k : Nat} {x : Str} {st : Stmt} {ps : List Str} {sp : Sp} {e : Expr} {es : List Expr} {t : TA} {p pos : Pos} (D : Df X.prog X.w X.K X.mg X.base k x st ps sp) (hr : Room k X.A) (hg : Gl X x) (ha : PA X (e :: es) t)
    (hdb : (x == ("__debug__" : Str)) = false := by decide) (he : starEach (e :: es) X.env = (false, eval e X.env) :: starEach es X.env := by rfl) (hpl : (backTo pos (starEach es X.env)).any (·.1) = false := by rfl) :
    PE X (.Call (.Name x p) (e :: es) [] pos) (tCall sp [] E0 t) := by
  obtain ⟨f, fd, F, g, G, b⟩ := D.ex
  exact pe_call G hr hg g F.kp b .nil pass0 ha hdb he hpl
theorem pe_df0 {X : Cx} {k : Nat} {x : Str} {st : Stmt} {ps : List Str} {sp : Sp} {p pos : Pos} (D : Df X.prog X.w X.K X.mg X.base k x st ps sp) (hr : Room k X.A) (hg : Gl X x) (hdb : (x == ("__debug__" : Str)) = false := by decide) :
    PE X (.Call (.Name x p) [] [] pos) (tCall sp [] E0 tNil) := by
  obtain ⟨f, fd, F, g, G, b⟩ := D.ex
  exact pe_call0 G hr hg g F.kp b .nil pass0 hdb
theorem pe_dfG {X : Cx} {k : Nat} {x : Str} {st : Stmt} {ps : List Str} {sp : Sp} {e : Expr} {es : List Expr} {t : TA} {p pos : Pos} (D : DfG X.prog X.w X.K X.mg X.base k x st ps sp) (gd : Gd X.A) (hr : Room k X.A) (hg : Gl X x) (ha : PA X (e :: es) t)
    (hdb : (x == ("__debug__" : Str)) = false := by decide) (he : starEach (e :: es) X.env = (false, eval e X.env) :: starEach es X.env := by rfl) (hpl : (backTo pos (starEach es X.env)).any (·.1) = false := by rfl) :
    PE X (.Call (.Name x p) (e :: es) [] pos) (tCall sp [] E0 t) := by
  obtain ⟨f, fd, F, g, G, b⟩ := D.ex
  exact pe_callG G gd hr hg g F.kp b .nil ha hdb he hpl
structure Lib2 (K : PySem.W.Frag) (mg : Str → Option Value) : Prop where
  repr : mg "repr" = none
  dict : mg "dict" = none
  list : mg "list" = none
/-- NothingToUndo, NothingToRedo, ShowError -/
structure Bare (K : PySem.W.Frag) (x : Str) : Prop where
  q : PySem.W.excIn K (ga K x) He.veBase "ValueError.__new__" = true
  k : PySem.W.keepIn K (.ref (ga K x)) = true
section
variable {P : Program} {w : World} {K : PySem.W.Frag} {mg : Str → Option Value} {base : Heap}
abbrev sLaw : Stmt := top 42
abbrev nLaw : List Str := ["_law_script", "_law_purse_here", "_law_word_here", "_law_falses", "_law_thing", "_law_some", "_law_rest", "_law_error"]
theorem scLaw : FnScope nLaw ["_law_script"] (defScope sLaw) := ⟨rfl, rfl, rfl, by decide +kernel, rfl, by decide +kernel, by decide +kernel⟩
theorem ok_law {f : Addr} {fd : FuncData} (F : FnP K "law" sLaw f fd) (T : IsF K mg) (L : Lib K mg) (L2 : Lib2 K mg) (XC : ∀ x ∈ nm, ∃ fI, EC K (ga K x) fI)
    (DP : Df P w K mg base 2 "_law_purses" sPurses ["_law_script", "_law_few"] (spPurses K)) (DW : Df P w K mg base 3 "_law_word" sWord ["_law_purse_here"] spWord) (DO : Df P w K mg base 3 "_law_one_of" sOne ["_law_purse_here", "_law_some"] (spOne K))
    (D1 : Df P w K mg base 3 "_law_first" sFirst ["_law_thing"] (spFirst K)) (D2 : Df P w K mg base 3 "_law_called" sCalled ["_law_thing"] (spFirst K)) (D0 : Df P w K mg base 3 "_law_bare" sBare [] (spBare K))
    (DC : Df P w K mg base 1 "_law_code" sCode ["_law_error"] (spCode K)) (DE : Df P w K mg base 1 "_law_is_error" sIsE ["_law_error"] (spIsE K)) (DR : DfG P w K mg base 2 "_law_right" sRight ["_law_some", "_law_noted"] (spRight K))
    (BU : Bare K "NothingToUndo") (BR : Bare K "NothingToRedo") (BS : Bare K "ShowError") : FnG P w K mg base 4 f fd ["_law_script"] (spLaw K) := by
  refine gdN F scLaw (fun vs H Q E h => ?_) (fun cdv A outer s H vs Q Ex hg hr h => ?_)
  · obtain ⟨_, _, rfl, _⟩ := h
    rfl
  · obtain ⟨a, ns, rfl, hS, k⟩ := h
    have hu := hr.units
    have hr2 : Room 2 _ := hr.mono (by decide)
    have hr1 : Room 1 _ := hr.mono (by decide)
    refine ⟨_, pss_cons (ps_for PassesOwn.never rfl (pi_list (pe_df DP hr2 (by rfl) (pa_cons (pv 0) (pa_cons pe_int pa_nil)))) (pg_name (i := 1) scLaw.nd rfl (Or.inl rfl))
        (pss_cons (ps_set (i := 2) scLaw.nd rfl (Or.inl rfl) (pe_df DW hr (by rfl) (pa_cons (pv 1) pa_nil)))
        (pss_cons (ps_set (i := 3) scLaw.nd rfl (Or.inl rfl) (pe_lst (pa_cons pe_int (pa_cons pe_str (pa_cons (pe_lst pa_nil) (pa_cons pe_bl (pa_cons (pe_tup pa_nil) (pa_cons (pe_callTy (call_dictP rfl) (by rfl) L2.dict (by decide +kernel) (pa_cons (pe_lst pa_nil) pa_nil)) pa_nil))))))))
        (pss_cons (ps_set (i := 4) scLaw.nd rfl (Or.inr rfl) (pe_df DO hr (by rfl) (pa_cons (pv 1) (pa_cons (pe_op op_cat (pe_lst (pa_cons (pe_lst (pa_cons (pv 2) pa_nil)) (pa_cons (pe_tup (pa_cons (pv 2) (pa_cons pe_int pa_nil)))
            (pa_cons (pv 2) (pa_cons pe_non (pa_cons pe_bl (pa_cons (pe_lst (pa_cons (pe_tup (pa_cons (pv 2) (pa_cons (pe_lst pa_nil) pa_nil))) pa_nil)) (pa_cons (pe_lst (pa_cons (pe_lst (pa_cons (pv 2) (pa_cons (pe_tup pa_nil) pa_nil))) pa_nil)) pa_nil)))))))) (pv 3)) pa_nil))))
        (pss_one (ps_for PassesOwn.never rfl (pi_tup (pe_tup (pa_cons (pe_df D1 hr (by rfl) (pa_cons (pv 4) pa_nil)) (pa_cons (pe_df D2 hr (by rfl) (pa_cons (pv 4) pa_nil)) pa_nil)))) (pg_name (i := 5) scLaw.nd rfl (Or.inl rfl))
          (pss_cons (ps_if (pt_not (pt_val (pe_dfG DR hg hr2 (by rfl) (pa_cons (pv 5) (pa_cons (pe_callB (call_repr hg hu) (by rfl) L2.repr (by decide +kernel) (pa_cons (pv 4) pa_nil)) pa_nil))))) (pss_one (ps_ret pe_bl)) pss_nil)
          (pss_one (ps_if (pt_val (pe_callB call_isi (by rfl) T.fi (by decide +kernel) (pa_cons (pv 4) (pa_cons (pe_bltn (v := .ty "list") (by rfl) L2.list (by decide +kernel) rfl) pa_nil))))
            (pss_cons (ps_expr (pe_bm PySem.F.plainAttrs_list PySem.F.slot_list_append PySem.F.type_list_append mt_append (pv 4) (pa_cons pe_str pa_nil)))
            (pss_cons (ps_if (pt_cmpR (op_neD hu)
                (pe_lc (own := [("_law_error", 7)]) (g := gName 7) (tt := tTest (tOp rNe (tCB (rRepr K) (tCons (tVal K (tVar 7)) tNil)) (tCB (rRepr K) (tCons (tVar 4) tNil)))) (te := tVar 7) rfl scLaw.nd (pi_list (pv 5))
                  (blkOk_by (N := nLaw) (sc := defScope sLaw) (by decide +kernel)) (fun _ _ _ _ _ => pg_name (i := 7) scLaw.nd rfl (Or.inl rfl))
                  (fun _ _ _ _ _ => pts_one (pt_cmpR op_ne (pe_callB (call_repr hg hu) (by rfl) L2.repr (by decide +kernel) (pa_cons (pe_val (pv 7)) pa_nil)) (pe_callB (call_repr hg hu) (by rfl) L2.repr (by decide +kernel) (pa_cons (pv 4) pa_nil)) (nomark _)))
                  (fun _ _ _ _ _ => pv 7)) (pe_lst pa_nil) (nomark _)) (pss_one (ps_ret pe_bl)) pss_nil)
            (pss_one (ps_expr (pe_bm0 PySem.F.plainAttrs_list PySem.F.slot_list_pop PySem.F.type_list_pop mt_pop (pv 4)))))) pss_nil)))))))))
      (pss_cons (ps_for PassesOwn.never rfl (pi_tup (pe_tup (pa_cons pe_int (pa_cons pe_str (pa_cons pe_bl (pa_cons (pe_tup pa_nil) pa_nil)))))) (pg_name (i := 4) scLaw.nd rfl (Or.inr rfl))
        (pss_one (ps_if (PW.pt (pw_or (pt_not (pt_val (pe_dfG DR hg hr2 (by rfl) (pa_cons (pe_df D1 hr (by rfl) (pa_cons (pv 4) pa_nil)) (pa_cons (pe_callB (call_repr hg hu) (by rfl) L2.repr (by decide +kernel) (pa_cons (pv 4) pa_nil)) pa_nil)))))
          (pw_or1 (pt_not (pt_val (pe_dfG DR hg hr2 (by rfl) (pa_cons (pe_df D2 hr (by rfl) (pa_cons (pv 4) pa_nil)) (pa_cons (pe_callB (call_repr hg hu) (by rfl) L2.repr (by decide +kernel) (pa_cons (pv 4) pa_nil)) pa_nil)))))))) (pss_one (ps_ret pe_bl)) pss_nil)))
      (pss_cons (ps_if (pt_not (pt_val (pe_dfG DR hg hr2 (by rfl) (pa_cons (pe_df0 D0 hr (by rfl)) (pa_cons pe_str pa_nil))))) (pss_one (ps_ret pe_bl)) pss_nil)
      (pss_cons (ps_set (i := 6) scLaw.nd rfl (Or.inl rfl) (pe_lst (pa_cons (pe_mkN BU.q BU.k (by rfl) (T.gl "NothingToUndo" (n28_of (n27_at (i := 25) rfl)))) (pa_cons (pe_mkN BR.q BR.k (by rfl) (T.gl "NothingToRedo" (n28_of (n27_at (i := 26) rfl)))) pa_nil))))
      (pss_cons (ps_if (PW.pt (pw_or (pt_cmpR (op_neD hu)
            (pe_lc (own := [("_law_error", 7)]) (g := gName 7) (tt := tYes) (te := tCall (spCode K) [] E0 (tCons (tVar 7) tNil)) rfl scLaw.nd (pi_list (pv 6))
              (blkOk_by (N := nLaw) (sc := defScope sLaw) (by decide +kernel)) (fun _ _ _ _ _ => pg_name (i := 7) scLaw.nd rfl (Or.inl rfl)) (fun _ _ _ _ _ => pts_nil) (fun _ _ _ _ _ => pe_df DC hr1 (by rfl) (pa_cons (pv 7) pa_nil)))
            (pe_lst (pa_cons (pe_lst (pa_cons pe_int pa_nil)) (pa_cons (pe_lst (pa_cons pe_int pa_nil)) pa_nil))) (nomark _))
          (pw_or (pt_not (pt_val (pe_df DE hr1 (by rfl) (pa_cons (pe_ix ix_list (pv 6) pe_int (fun _ _ => rfl)) pa_nil)))) (pw_or1 (pt_not (pt_val (pe_df DE hr1 (by rfl) (pa_cons (pe_ix ix_list (pv 6) pe_int (fun _ _ => rfl)) pa_nil)))))))) (pss_one (ps_ret pe_bl)) pss_nil)
      (pss_one (ps_ret (pe_and (pe_df DE hr1 (by rfl) (pa_cons (pe_mkN BS.q BS.k (by rfl) (T.gl "ShowError" s28)) pa_nil)) (pe_one (pe_cmpR (op_eqD hu) (pe_df DC hr1 (by rfl) (pa_cons (pe_mkN BS.q BS.k (by rfl) (T.gl "ShowError" s28)) pa_nil)) (pe_lst pa_nil) (nomark _)))))))))), ?_⟩
    have len6 : 6 ≤ sizeLine := by decide
    refine ⟨_, rfl, a, 3, ns, rfl, hS, by decide, fun D ps H1 nD hD hps hlen s1 => ?_⟩
    refine ⟨D, rfl, ⟨_, SqL.of hD⟩, for_list (K := K) (a := D) (xs := ps.map V.ref) (fun i σ H' => ∃ o1 o2 o3 o4 o5 : Option V, σ = [some (.ref a), o1, o2, o3, o4, o5, none, none] ∧ H' D = some (.lst (ps.map V.ref)) ∧ ∀ p ∈ ps, Purse H' p (30 * i) ∧ p ≠ D)
      ⟨none, none, none, none, none, rfl, hD, hps⟩ (fun i σ H' _ h => by obtain ⟨_, _, _, _, _, _, h, _⟩ := h; exact SqL.of h) ?_ ?_⟩
    · rintro i y σ H2 hi ⟨o1, o2, o3, o4, o5, rfl, hD2, hp2⟩
      have hi1 : i < ps.length := by
        have q := (List.getElem?_eq_some_iff.mp hi).1
        rw [List.length_map] at q
        exact q
      rw [List.getElem?_map] at hi
      obtain ⟨p, hp, rfl⟩ := Option.map_eq_some_iff.mp hi
      have hpm : p ∈ ps := List.mem_of_getElem? hp
      obtain ⟨hpp, npD⟩ := hp2 p hpm
      -- word
      refine ⟨_, rfl, p, 30 * i, rfl, hpp, by omega, fun z H3 zl zs hp3 b3 => ?_⟩
      obtain ⟨pxs, hpx, hpl⟩ := id hp3
      -- falses
      refine ⟨Nat.zero_le _, fun l4 n4 => ⟨Nat.zero_le _, fun t2 m2 => ⟨Nat.zero_le _, fun l5 n5 => ⟨l5, [], [], rfl, SqL.of upd_same, .nil, fun dd nd => ⟨len6, fun Fl nF => ?_⟩⟩⟩⟩⟩
      -- thing
      refine ⟨_, rfl, _, rfl, (by show 1 ≤ sizeLine; decide), fun l1 n1 => ⟨_, rfl, (by show 2 ≤ sizeLine; decide), fun t1 m1 => ⟨_, rfl, _, rfl, Nat.zero_le _, fun l6 n6 => ⟨(by show 2 ≤ sizeLine; decide), fun t3 m3 => ⟨(by show 1 ≤ sizeLine; decide), fun l2 n2 => ?_⟩⟩⟩⟩⟩
      refine ⟨_, rfl, Nat.zero_le _, fun t4 m4 => ⟨(by show 2 ≤ sizeLine; decide), fun l7 n7 => ⟨(by show 1 ≤ sizeLine; decide), fun l3 n3 => ⟨(by show 7 ≤ sizeLine; decide), fun M nM => ?_⟩⟩⟩⟩
      refine ⟨_, rfl, M, Fl, _, _, rfl, rfl, upd_same, ((sn nM) _ _ ((sn n3) _ _ ((sn n7) _ _ ((sn m4) _ _ ((sn n2) _ _ ((sn m3) _ _ ((sn n6) _ _ ((sn m1) _ _ ((sn n1) _ _ upd_same))))))))), (by show 13 ≤ sizeLine; decide), fun MM nMM => ?_⟩
      obtain ⟨v0, sd0, tt0, aa0, epx, _⟩ := id hpl
      subst epx
      refine ⟨p, MM, _, 30 * i + 27, rfl, ⟨_, ((sn nMM) _ _ ((sn nM) _ _ ((sn n3) _ _ ((sn n7) _ _ ((sn m4) _ _ ((sn n2) _ _ ((sn m3) _ _ ((sn n6) _ _ ((sn m1) _ _ ((sn n1) _ _ ((sn nF) _ _ ((sn nd) _ _ ((sn n5) _ _ ((sn m2) _ _ ((sn n4) _ _ hpx))))))))))))))), hpl⟩, by omega, SqL.of upd_same, (Ne.symm (ne_of_none ((sn nM) _ _ ((sn n3) _ _ ((sn n7) _ _ ((sn m4) _ _ ((sn n2) _ _ ((sn m3) _ _ ((sn n6) _ _ ((sn m1) _ _ ((sn n1) _ _ ((sn nF) _ _ ((sn nd) _ _ ((sn n5) _ _ ((sn m2) _ _ ((sn n4) _ _ hpx)))))))))))))) nMM)), Nat.le_of_ble_eq_true rfl, Nat.le_of_ble_eq_true rfl, fun v H5 hv hp5 b5 => ?_⟩
      have f_l4 : H5 l4 = some (.lst []) := but_get b5 ((sn nMM) _ _ ((sn nM) _ _ ((sn n3) _ _ ((sn n7) _ _ ((sn m4) _ _ ((sn n2) _ _ ((sn m3) _ _ ((sn n6) _ _ ((sn m1) _ _ ((sn n1) _ _ ((sn nF) _ _ ((sn nd) _ _ ((sn n5) _ _ ((sn m2) _ _ ((sn n4) _ _ hpx))))))))))))))) ((sn nMM) _ _ ((sn nM) _ _ ((sn n3) _ _ ((sn n7) _ _ ((sn m4) _ _ ((sn n2) _ _ ((sn m3) _ _ ((sn n6) _ _ ((sn m1) _ _ ((sn n1) _ _ ((sn nF) _ _ ((sn nd) _ _ ((sn n5) _ _ ((sn m2) _ _ upd_same)))))))))))))) (by intro q; cases q)
      have f_t2 : H5 t2 = some (.tup []) := but_get b5 ((sn nMM) _ _ ((sn nM) _ _ ((sn n3) _ _ ((sn n7) _ _ ((sn m4) _ _ ((sn n2) _ _ ((sn m3) _ _ ((sn n6) _ _ ((sn m1) _ _ ((sn n1) _ _ ((sn nF) _ _ ((sn nd) _ _ ((sn n5) _ _ ((sn m2) _ _ ((sn n4) _ _ hpx))))))))))))))) ((sn nMM) _ _ ((sn nM) _ _ ((sn n3) _ _ ((sn n7) _ _ ((sn m4) _ _ ((sn n2) _ _ ((sn m3) _ _ ((sn n6) _ _ ((sn m1) _ _ ((sn n1) _ _ ((sn nF) _ _ ((sn nd) _ _ ((sn n5) _ _ upd_same))))))))))))) (by intro q; cases q)
      have f_dd : H5 dd = some (.dK []) := but_get b5 ((sn nMM) _ _ ((sn nM) _ _ ((sn n3) _ _ ((sn n7) _ _ ((sn m4) _ _ ((sn n2) _ _ ((sn m3) _ _ ((sn n6) _ _ ((sn m1) _ _ ((sn n1) _ _ ((sn nF) _ _ ((sn nd) _ _ ((sn n5) _ _ ((sn m2) _ _ ((sn n4) _ _ hpx))))))))))))))) ((sn nMM) _ _ ((sn nM) _ _ ((sn n3) _ _ ((sn n7) _ _ ((sn m4) _ _ ((sn n2) _ _ ((sn m3) _ _ ((sn n6) _ _ ((sn m1) _ _ ((sn n1) _ _ ((sn nF) _ _ upd_same))))))))))) (by intro q; cases q)
      have f_l1 : H5 l1 = some (.lst [.str z]) := but_get b5 ((sn nMM) _ _ ((sn nM) _ _ ((sn n3) _ _ ((sn n7) _ _ ((sn m4) _ _ ((sn n2) _ _ ((sn m3) _ _ ((sn n6) _ _ ((sn m1) _ _ ((sn n1) _ _ ((sn nF) _ _ ((sn nd) _ _ ((sn n5) _ _ ((sn m2) _ _ ((sn n4) _ _ hpx))))))))))))))) ((sn nMM) _ _ ((sn nM) _ _ ((sn n3) _ _ ((sn n7) _ _ ((sn m4) _ _ ((sn n2) _ _ ((sn m3) _ _ ((sn n6) _ _ ((sn m1) _ _ upd_same))))))))) (by intro q; cases q)
      have f_t1 : H5 t1 = some (.tup [.str z, .int 1]) := but_get b5 ((sn nMM) _ _ ((sn nM) _ _ ((sn n3) _ _ ((sn n7) _ _ ((sn m4) _ _ ((sn n2) _ _ ((sn m3) _ _ ((sn n6) _ _ ((sn m1) _ _ ((sn n1) _ _ ((sn nF) _ _ ((sn nd) _ _ ((sn n5) _ _ ((sn m2) _ _ ((sn n4) _ _ hpx))))))))))))))) ((sn nMM) _ _ ((sn nM) _ _ ((sn n3) _ _ ((sn n7) _ _ ((sn m4) _ _ ((sn n2) _ _ ((sn m3) _ _ ((sn n6) _ _ upd_same)))))))) (by intro q; cases q)
      have f_l6 : H5 l6 = some (.lst []) := but_get b5 ((sn nMM) _ _ ((sn nM) _ _ ((sn n3) _ _ ((sn n7) _ _ ((sn m4) _ _ ((sn n2) _ _ ((sn m3) _ _ ((sn n6) _ _ ((sn m1) _ _ ((sn n1) _ _ ((sn nF) _ _ ((sn nd) _ _ ((sn n5) _ _ ((sn m2) _ _ ((sn n4) _ _ hpx))))))))))))))) ((sn nMM) _ _ ((sn nM) _ _ ((sn n3) _ _ ((sn n7) _ _ ((sn m4) _ _ ((sn n2) _ _ ((sn m3) _ _ upd_same))))))) (by intro q; cases q)
      have f_t3 : H5 t3 = some (.tup [.str z, .ref l6]) := but_get b5 ((sn nMM) _ _ ((sn nM) _ _ ((sn n3) _ _ ((sn n7) _ _ ((sn m4) _ _ ((sn n2) _ _ ((sn m3) _ _ ((sn n6) _ _ ((sn m1) _ _ ((sn n1) _ _ ((sn nF) _ _ ((sn nd) _ _ ((sn n5) _ _ ((sn m2) _ _ ((sn n4) _ _ hpx))))))))))))))) ((sn nMM) _ _ ((sn nM) _ _ ((sn n3) _ _ ((sn n7) _ _ ((sn m4) _ _ ((sn n2) _ _ upd_same)))))) (by intro q; cases q)
      have f_l2 : H5 l2 = some (.lst [.ref t3]) := but_get b5 ((sn nMM) _ _ ((sn nM) _ _ ((sn n3) _ _ ((sn n7) _ _ ((sn m4) _ _ ((sn n2) _ _ ((sn m3) _ _ ((sn n6) _ _ ((sn m1) _ _ ((sn n1) _ _ ((sn nF) _ _ ((sn nd) _ _ ((sn n5) _ _ ((sn m2) _ _ ((sn n4) _ _ hpx))))))))))))))) ((sn nMM) _ _ ((sn nM) _ _ ((sn n3) _ _ ((sn n7) _ _ ((sn m4) _ _ upd_same))))) (by intro q; cases q)
      have f_t4 : H5 t4 = some (.tup []) := but_get b5 ((sn nMM) _ _ ((sn nM) _ _ ((sn n3) _ _ ((sn n7) _ _ ((sn m4) _ _ ((sn n2) _ _ ((sn m3) _ _ ((sn n6) _ _ ((sn m1) _ _ ((sn n1) _ _ ((sn nF) _ _ ((sn nd) _ _ ((sn n5) _ _ ((sn m2) _ _ ((sn n4) _ _ hpx))))))))))))))) ((sn nMM) _ _ ((sn nM) _ _ ((sn n3) _ _ ((sn n7) _ _ upd_same)))) (by intro q; cases q)
      have f_l7 : H5 l7 = some (.lst [.str z, .ref t4]) := but_get b5 ((sn nMM) _ _ ((sn nM) _ _ ((sn n3) _ _ ((sn n7) _ _ ((sn m4) _ _ ((sn n2) _ _ ((sn m3) _ _ ((sn n6) _ _ ((sn m1) _ _ ((sn n1) _ _ ((sn nF) _ _ ((sn nd) _ _ ((sn n5) _ _ ((sn m2) _ _ ((sn n4) _ _ hpx))))))))))))))) ((sn nMM) _ _ ((sn nM) _ _ ((sn n3) _ _ upd_same))) (by intro q; cases q)
      have f_l3 : H5 l3 = some (.lst [.ref l7]) := but_get b5 ((sn nMM) _ _ ((sn nM) _ _ ((sn n3) _ _ ((sn n7) _ _ ((sn m4) _ _ ((sn n2) _ _ ((sn m3) _ _ ((sn n6) _ _ ((sn m1) _ _ ((sn n1) _ _ ((sn nF) _ _ ((sn nd) _ _ ((sn n5) _ _ ((sn m2) _ _ ((sn n4) _ _ hpx))))))))))))))) ((sn nMM) _ _ ((sn nM) _ _ upd_same)) (by intro q; cases q)
      have b35 : But p H3 H5 := fun b o n e => b5 b o n ((sn nMM) _ _ ((sn nM) _ _ ((sn n3) _ _ ((sn n7) _ _ ((sn m4) _ _ ((sn n2) _ _ ((sn m3) _ _ ((sn n6) _ _ ((sn m1) _ _ ((sn n1) _ _ ((sn nF) _ _ ((sn nd) _ _ ((sn n5) _ _ ((sn m2) _ _ ((sn n4) _ _ e)))))))))))))))
      have okz := strOk_of zs
      obtain ⟨d, hd⟩ : ∃ d, Thg K H5 v d := by
        simp only [List.cons_append, List.nil_append, List.mem_cons, List.not_mem_nil, or_false] at hv
        rcases hv with rfl | rfl | rfl | rfl | rfl | rfl | rfl | rfl | rfl | rfl | rfl | rfl | rfl
        · exact ⟨_, tg_w1 okz zl f_l1⟩
        · exact ⟨_, tg_w2 okz zl f_t1⟩
        · exact ⟨_, tg_str okz zl⟩
        · exact ⟨_, tg_none⟩
        · exact ⟨_, tg_bool true⟩
        · exact ⟨_, tg_w3 okz zl f_l2 f_t3 f_l6⟩
        · exact ⟨_, tg_w4 okz zl f_l3 f_l7 f_t4⟩
        · exact ⟨_, tg_int0⟩
        · exact ⟨_, tg_str later_ok.2 (by decide +kernel)⟩
        · exact ⟨_, tg_nil f_l4⟩
        · exact ⟨_, tg_bool false⟩
        · exact ⟨_, tg_tnil f_t2⟩
        · exact ⟨_, tg_dct f_dd⟩
      -- first, called
      refine ⟨_, rfl, v, rfl, fun S1 H6 L1 => ⟨_, rfl, v, rfl, fun S2 H7 L2e => ⟨(by show 2 ≤ sizeLine; decide), fun TT nTT => ?_⟩⟩⟩
      obtain ⟨as1, e1, r1, sm6, nS1⟩ := L1
      obtain ⟨as2, e2, r2, sm7, nS2⟩ := L2e
      have sT : Same H7 (upd H7 TT (.tup [.ref S1, .ref S2])) := sn nTT
      have hTT : upd H7 TT (.tup [.ref S1, .ref S2]) TT = some (.tup [.ref S1, .ref S2]) := upd_same
      generalize upd H7 TT (.tup [.ref S1, .ref S2]) = H8 at sT hTT ⊢
      have s58 : Same H5 H8 := (sm6.trans sm7).trans sT
      have hSS : ∀ (i : Nat) (y : V), [V.ref S1, V.ref S2][i]? = some y → ∃ S as, y = .ref S ∧ H8 S = some (.lst (as.map V.ref)) ∧ Errs H8 v as (nm.map (ga K)) ∧ H5 S = none := by
        intro i y e
        match i, e with
        | 0, e =>
          cases e
          exact ⟨S1, as1, rfl, (sm7.trans sT) _ _ e1, r1.same (sm7.trans sT), nS1⟩
        | 1, e =>
          cases e
          exact ⟨S2, as2, rfl, sT _ _ e2, r2.same sT, sm6.free nS2⟩
        | (j + 2), e => cases e
      refine ⟨TT, rfl, ⟨_, SqT.of hTT⟩, for_tup (K := K) (a := TT) (xs := [.ref S1, .ref S2]) (fun i σ H' => (∃ o5, σ = [some (.ref a), some (.ref p), some (.str z), some (.ref Fl), some v, o5, none, none]) ∧ Same H8 H') ⟨⟨_, rfl⟩, Same.refl _⟩
        (fun i σ H' _ h => SqT.of (h.2 _ _ hTT)) ?_ ?_⟩
      · rintro i y σ H9 hi ⟨⟨o, rfl⟩, s9⟩
        obtain ⟨S, as, rfl, hS8, hE8, hS5⟩ := hSS i y hi
        have h9 := (hd.same s58).same s9
        -- right(some, repr(thing))
        refine ⟨_, rfl, _, rfl, v, d, rfl, h9.sh.rp, h9.sh.di, h9.sh.sh, h9.sh.dp, h9.sh.le, S, as, v, d, rfl, s9 _ _ hS8, hE8.same s9, h9.sh, fun H10 s10 => ?_⟩
        refine ⟨true, rfl, iteF ?_⟩
        have s8 : Same H8 H10 := s9.trans s10
        have s510 : Same H5 H10 := s58.trans s8
        obtain ⟨hsh, t, b, ht, hk, hb⟩ := id hd
        refine ⟨_, rfl, v, .ty "list", t, .type "list", b, rfl, .ty _, ht H10 s510, hk, b, rfl, ?_⟩
        cases b with
        | false => exact iteF ⟨⟨_, rfl⟩, s8⟩
        | true =>
          obtain ⟨l, xs, ds, hL0⟩ := hb rfl
          obtain ⟨ev, ed, hl, hle, its, fa⟩ := hL0.same s510
          have hl5 := hL0.h
          subst ev ed
          refine iteT ?_
          -- append
          refine ⟨_, rfl, .inl ⟨rfl, _, SqL.of hl⟩, l, xs, .str "later", rfl, rfl, hl, small1000 (by omega), ?_⟩
          have sL := shows_later its fa
          have hE11 : Errs (upd H10 l (.lst (xs ++ [.str "later"]))) (.ref l) as (nm.map (ga K)) := errs_upd (hE8.same s8) hl
          have nSl : S ≠ l := fun q => by
            rw [q, hl5] at hS5
            cases hS5
          have hS11 : upd H10 l (.lst (xs ++ [.str "later"])) S = some (.lst (as.map V.ref)) := by
            rw [upd_ne nSl]
            exact s8 _ _ hS8
          have hl11 : upd H10 l (.lst (xs ++ [.str "later"])) l = some (.lst (xs ++ [.str "later"])) := upd_same
          have b11 : But l H10 (upd H10 l (.lst (xs ++ [.str "later"]))) := But.upd
          generalize upd H10 l (.lst (xs ++ [.str "later"])) = H11 at sL hE11 hS11 hl11 b11 ⊢
          -- the comprehension: nothing is left
          refine ⟨_, rfl, S, rfl, ⟨_, SqL.of hS11⟩, fun D2 hD2 => lc_list (K := K) (a := S) (xs := as.map V.ref) (fun i H' => H' D2 = some (.lst []) ∧ Same H11 H') ⟨upd_same, sn hD2⟩ (fun i H' _ h => h.2.seq (SqL.of hS11)) ?_ ?_⟩
          · rintro j y H12 hj ⟨g1, g2⟩
            rw [List.getElem?_map] at hj
            obtain ⟨a2, ha2, rfl⟩ := Option.map_eq_some_iff.mp hj
            obtain ⟨hj25, ea⟩ := err_at hE11 ha2
            obtain ⟨fI, hX⟩ := XC (nm.getD j "") (List.mem_of_getElem? (i := j) (by rw [List.getD_eq_getElem?_getD, List.getElem?_eq_getElem (show j < nm.length from hj25)]; rfl))
            have s12 := sL.same g2
            refine ⟨rfl, _, rfl, a2, _, fI, .ref l, rfl, ea.same g2, hX, .ref l, _, rfl, s12.rp, s12.di, s12.sh, s12.dp, s12.le, _, rfl, .ref l, _, rfl, s12.rp, s12.di, s12.sh, s12.dp, s12.le, rfl, _, rfl, ?_⟩
            exact iteNS rfl ⟨g1, g2⟩
          · rintro H12 ⟨g1, g2⟩
            refine ⟨Nat.zero_le _, fun q nq => ⟨.list [], .list [], .lst (SqL.of (sn nq _ _ g1)) .nil, .lst (SqL.of upd_same) .nil, ones_shaped [], ones_shaped [], _, rfl, ?_⟩⟩
            rw [show PyData.eqv (.list []) (.list []) = true from ones_same []]
            refine iteF ?_
            have hl13 : upd H12 q (.lst []) l = some (.lst (xs ++ [.str "later"])) := sn nq _ _ (g2 _ _ hl11)
            refine ⟨_, rfl, .inl ⟨rfl, _, SqL.of hl13⟩, l, xs ++ [.str "later"], .str "later", rfl, rfl, hl13, by simp, ?_⟩
            refine ⟨⟨_, rfl⟩, fun c u e => ?_⟩
            by_cases qc : c = l
            · have e10 := s8 _ _ e
              rw [qc, hl] at e10
              rw [qc, upd_same, List.dropLast_concat]
              exact e10
            · rw [upd_ne qc]
              exact sn nq _ _ (g2 _ _ (b11 _ _ qc (s8 _ _ e)))
      · rintro σ H9 ⟨⟨o, rfl⟩, s9⟩
        have s59 : Same H5 H9 := s58.trans s9
        refine ⟨_, _, _, _, _, rfl, s59 _ _ (b35 _ _ (Ne.symm npD) (b3 _ _ (Ne.symm npD) hD2)), fun q hq => ?_⟩
        obtain ⟨hq1, hq2⟩ := hp2 q hq
        refine ⟨?_, hq2⟩
        by_cases qp : q = p
        · rw [qp]
          exact (hp5.same s59).mono (by omega)
        · exact (((hq1.but b3 qp).but b35 qp).same s59).mono (by omega)
    · rintro σ H2 ⟨o1, o2, o3, o4, o5, rfl, _, _⟩
      -- for thing in (0, '', False, ())
      refine ⟨Nat.zero_le _, fun t0 nt0 => ⟨(by show 4 ≤ sizeLine; decide), fun TT nTT => ?_⟩⟩
      have hTT : upd (upd H2 t0 (.tup [])) TT (.tup [.int 0, .str "", .bl false, .ref t0]) TT = some (.tup [.int 0, .str "", .bl false, .ref t0]) := upd_same
      have ht0 : upd (upd H2 t0 (.tup [])) TT (.tup [.int 0, .str "", .bl false, .ref t0]) t0 = some (.tup []) := sn nTT _ _ upd_same
      generalize upd (upd H2 t0 (.tup [])) TT (.tup [.int 0, .str "", .bl false, .ref t0]) = HT at hTT ht0 ⊢
      refine ⟨TT, rfl, ⟨_, SqT.of hTT⟩, for_tup (K := K) (a := TT) (xs := [.int 0, .str "", .bl false, .ref t0]) (fun i σ H' => (∃ o4, σ = [some (.ref a), o1, o2, o3, o4, o5, none, none]) ∧ Same HT H') ⟨⟨_, rfl⟩, Same.refl _⟩ (fun i σ H' _ h => SqT.of (h.2 _ _ hTT)) ?_ ?_⟩
      · rintro i y σ H5 hi ⟨⟨o, rfl⟩, s5⟩
        obtain ⟨d, hd⟩ : ∃ d, Thg K H5 y d := by
          have hy : y ∈ [V.int 0, .str "", .bl false, .ref t0] := List.mem_of_getElem? hi
          simp only [List.mem_cons, List.not_mem_nil, or_false] at hy
          rcases hy with rfl | rfl | rfl | rfl
          · exact ⟨_, tg_int0⟩
          · exact ⟨_, tg_str later_ok.2 (by decide +kernel)⟩
          · exact ⟨_, tg_bool false⟩
          · exact ⟨_, tg_tnil (s5 _ _ ht0)⟩
        refine ⟨_, rfl, y, rfl, fun S1 H6 L1 => ?_⟩
        obtain ⟨as1, e1, r1, s6, _⟩ := L1
        have h6 := (hd.same s6).sh
        refine ⟨_, rfl, y, d, rfl, h6.rp, h6.di, h6.sh, h6.dp, h6.le, S1, as1, y, d, rfl, e1, r1, h6, fun H7 s7 => ⟨true, rfl, iteF ?_⟩⟩
        refine ⟨_, rfl, y, rfl, fun S2 H8 L2e => ?_⟩
        obtain ⟨as2, e2, r2, s8, _⟩ := L2e
        have h8 := ((hd.same (s6.trans s7)).same s8).sh
        refine ⟨_, rfl, y, d, rfl, h8.rp, h8.di, h8.sh, h8.dp, h8.le, S2, as2, y, d, rfl, e2, r2, h8, fun H9 s9 => ⟨true, rfl, iteF ?_⟩⟩
        exact ⟨⟨_, rfl⟩, (((s5.trans s6).trans s7).trans s8).trans s9⟩
      · rintro σ H5 ⟨⟨o, rfl⟩, _⟩
        -- right(bare(), 'None')
        refine ⟨rfl, fun S3 H6 L3 => ?_⟩
        obtain ⟨as3, e3, r3, _, _⟩ := L3
        refine ⟨S3, as3, .non, .none, (congrArg (fun z => [V.ref S3, V.str z]) none_shown.symm), e3, r3, (tg_none (K := K) (H := H6)).sh, fun H7 s7 => ⟨true, rfl, iteF ?_⟩⟩
        -- rest
        refine fun a1 na1 => fun a2 na2 => ⟨(by show 2 ≤ sizeLine; decide), fun R nR => ?_⟩
        have g1 : AnyErr (upd (upd (upd H7 a1 (exo a1 (ga K "NothingToUndo") none)) a2 (exo a2 (ga K "NothingToRedo") none)) R (.lst [.ref a1, .ref a2])) a1 (ga K "NothingToUndo") := .inl (sn nR _ _ (sn na2 _ _ upd_same))
        have g2 : AnyErr (upd (upd (upd H7 a1 (exo a1 (ga K "NothingToUndo") none)) a2 (exo a2 (ga K "NothingToRedo") none)) R (.lst [.ref a1, .ref a2])) a2 (ga K "NothingToRedo") := .inl (sn nR _ _ upd_same)
        have gR : (upd (upd (upd H7 a1 (exo a1 (ga K "NothingToUndo") none)) a2 (exo a2 (ga K "NothingToRedo") none)) R (.lst [.ref a1, .ref a2])) R = some (.lst [.ref a1, .ref a2]) := upd_same
        generalize (upd (upd (upd H7 a1 (exo a1 (ga K "NothingToUndo") none)) a2 (exo a2 (ga K "NothingToRedo") none)) R (.lst [.ref a1, .ref a2])) = H8 at g1 g2 gR ⊢
        refine ⟨_, rfl, R, rfl, ⟨_, SqL.of gR⟩, fun D hD => lc_list (K := K) (a := R) (xs := [.ref a1, .ref a2]) (fun i H' => Same H8 H' ∧ ((i = 0 ∧ H' D = some (.lst [])) ∨ (i = 1 ∧ ∃ l1, H' D = some (.lst [.ref l1]) ∧ H' l1 = some (.lst [inte 25])) ∨
            (i = 2 ∧ ∃ l1 l2, H' D = some (.lst [.ref l1, .ref l2]) ∧ H' l1 = some (.lst [inte 25]) ∧ H' l2 = some (.lst [inte 26]))))
          ⟨sn hD, .inl ⟨rfl, upd_same⟩⟩ (fun i H' _ h => h.1.seq (SqL.of gR)) ?_ ?_⟩
        · rintro i y H9 hi ⟨s9, hc⟩
          match i, hi with
          | 0, hi =>
            cases hi
            rcases hc with ⟨_, hc⟩ | ⟨q, _⟩ | ⟨q, _⟩
            · refine ⟨rfl, _, rfl, a1, "NothingToUndo", rfl, n28_of (n27_at (i := 25) rfl), any_same g1 s9, fun l Ha hl sa nl => ?_⟩
              rw [code25] at hl
              have nlD : l ≠ D := fun q => by
                rw [q, hc] at nl
                cases nl
              refine ⟨[], sa _ _ hc, (by decide), fun b o e => ?_, .inr (.inl ⟨rfl, l, upd_same, by rw [upd_ne nlD]; exact hl⟩)⟩
              rw [upd_ne (ne_of_none e hD)]
              exact sa _ _ (s9 _ _ e)
            · cases q
            · cases q
          | 1, hi =>
            cases hi
            rcases hc with ⟨q, _⟩ | ⟨_, l1, hc, hc1⟩ | ⟨q, _⟩
            · cases q
            · refine ⟨rfl, _, rfl, a2, "NothingToRedo", rfl, n28_of (n27_at (i := 26) rfl), any_same g2 s9, fun l Ha hl sa nl => ?_⟩
              rw [code26] at hl
              have nlD : l ≠ D := fun q => by
                rw [q, hc] at nl
                cases nl
              have nl1D : l1 ≠ D := ne_of hc1 hc (by intro q; cases q)
              refine ⟨[.ref l1], sa _ _ hc, (by show 1 < sizeLine; decide), fun b o e => ?_, .inr (.inr ⟨rfl, l1, l, upd_same, by rw [upd_ne nl1D]; exact sa _ _ hc1, by rw [upd_ne nlD]; exact hl⟩)⟩
              rw [upd_ne (ne_of_none e hD)]
              exact sa _ _ (s9 _ _ e)
            · cases q
          | (j + 2), hi => cases hi
        · rintro H9 ⟨s9, hc⟩
          rcases hc with ⟨q, _⟩ | ⟨q, _⟩ | ⟨_, l1, l2, hc, hc1, hc2⟩
          · cases q
          · cases q
          · refine ⟨(by show 1 ≤ sizeLine; decide), fun m1 k1 => ⟨(by show 1 ≤ sizeLine; decide), fun m2 k2 => ⟨(by show 2 ≤ sizeLine; decide), fun m3 k3 => ?_⟩⟩⟩
            have sK : Same H9 (upd (upd (upd H9 m1 (.lst [.int 25])) m2 (.lst [.int 26])) m3 (.lst [.ref m1, .ref m2])) := ((sn k1).trans (sn k2)).trans (sn k3)
            have q1 : (upd (upd (upd H9 m1 (.lst [.int 25])) m2 (.lst [.int 26])) m3 (.lst [.ref m1, .ref m2])) m1 = some (.lst [inte 25]) := sn k3 _ _ (sn k2 _ _ upd_same)
            have q2 : (upd (upd (upd H9 m1 (.lst [.int 25])) m2 (.lst [.int 26])) m3 (.lst [.ref m1, .ref m2])) m2 = some (.lst [inte 26]) := sn k3 _ _ upd_same
            have q3 : (upd (upd (upd H9 m1 (.lst [.int 25])) m2 (.lst [.int 26])) m3 (.lst [.ref m1, .ref m2])) m3 = some (.lst [.ref m1, .ref m2]) := upd_same
            generalize (upd (upd (upd H9 m1 (.lst [.int 25])) m2 (.lst [.int 26])) m3 (.lst [.ref m1, .ref m2])) = HK at sK q1 q2 q3 ⊢
            have sR := s9.trans sK
            refine ⟨.list ([25, 26].map one), .list ([25, 26].map one), .lst (SqL.of (sK _ _ hc)) (.cons (.lst (SqL.of (sK _ _ hc1)) (.cons (.int _) .nil)) (.cons (.lst (SqL.of (sK _ _ hc2)) (.cons (.int _) .nil)) .nil)),
              .lst (SqL.of q3) (.cons (.lst (SqL.of q1) (.cons (.int _) .nil)) (.cons (.lst (SqL.of q2) (.cons (.int _) .nil)) .nil)), ones_shaped _, ones_shaped _, _, rfl, ?_⟩
            rw [ones_same]
            refine iteF ?_
            refine ⟨_, rfl, R, _, 0, _, rfl, rfl, SqL.of (sR _ _ gR), rfl, a1, "NothingToUndo", rfl, n28_of (n27_at (i := 25) rfl), any_same g1 sR, true, rfl, iteF ?_⟩
            refine ⟨_, rfl, R, _, 1, _, rfl, rfl, SqL.of (sR _ _ gR), rfl, a2, "NothingToRedo", rfl, n28_of (n27_at (i := 26) rfl), any_same g2 sR, true, rfl, iteF ?_⟩
            -- ShowError
            refine fun a3 na3 => ⟨a3, "ShowError", rfl, s28, .inl upd_same, true, rfl, iteT ?_⟩
            refine fun a4 na4 => ⟨a4, "ShowError", rfl, s28, .inl upd_same, fun D4 H10 h10 s10 n10 => ⟨Nat.zero_le _, fun q nq => ?_⟩⟩
            rw [codeS] at h10
            refine ⟨.list [], .list [], .lst (SqL.of (sn nq _ _ h10)) .nil, .lst (SqL.of upd_same) .nil, ones_shaped [], ones_shaped [], ?_⟩
            rw [show PyData.eqv (.list []) (.list []) = true from ones_same []]
            exact k _
end
end K01

set_option maxHeartbeats 4000000
namespace K01
open PySem PySem.Spec PyProof.Rows L2 G1
/-! ### what the head's run tells of the classes, as truth values -/
def exB (K : PySem.W.Frag) (C : Addr) : Bool :=
  He.eqO (PySem.W.findIn K (.ref C) "__getattribute__") (some (some (.builtin "BaseException.__getattribute__"))) && (He.eqO (PySem.W.findIn K (.ref C) "__getattr__") (some none) &&
  (decide (PySem.W.subIn K (.ref C) (.type "BaseException") = some true) && (PySem.W.hasDictIn K C && (He.eqO (PySem.W.findIn K (.ref C) "__class__") (some (some (.builtin "object.__class__"))) &&
  (He.eqO (PySem.W.specialIn K (.builtin "object.__class__") "__get__") (some (some (.builtin "getset_descriptor.__get__"))) && (decide (PySem.W.takesIn K (.builtin "object.__class__") = some true) &&
  decide (PySem.W.mroIn K C (.type "object") = some true)))))))
theorem exB_ok {K : PySem.W.Frag} {C : Addr} (h : exB K C = true) : ExcC K C := by
  obtain ⟨h1, h⟩ := He.ba h
  obtain ⟨h2, h⟩ := He.ba h
  obtain ⟨h3, h⟩ := He.ba h
  obtain ⟨h4, h⟩ := He.ba h
  obtain ⟨h5, h⟩ := He.ba h
  obtain ⟨h6, h⟩ := He.ba h
  obtain ⟨h7, h8⟩ := He.ba h
  exact ⟨He.eqO_ok h1, He.eqO_ok h2, of_decide_eq_true h3, h4, He.eqO_ok h5, He.eqO_ok h6, of_decide_eq_true h7, of_decide_eq_true h8⟩
def clsB (K : PySem.W.Frag) (C : Addr) : Bool := match K.lookup C with
  | some ⟨.type c, _, .cls cd, sl⟩ => (match cd.mro, sl.toList with
    | .ref C' :: bm, [_, _, _, _, some (.builtin n), _] => decide (c = "type") && (decide (C' = C) && (decide (n = "ValueError.__new__") && (!cd.hasDel && (cd.hasDict && PySem.HandSPX.refsVE bm))))
    | _, _ => false)
  | _ => false
theorem clsB_ok {K : PySem.W.Frag} {C : Addr} (h : clsB K C = true) : ∃ nm q N bs bm sn sub ab col dd k0 k1 k2 k3 k5, K.lookup C = some (excClassObj nm q C N bs bm true sn sub ab col dd k0 k1 k2 k3 k5 "ValueError.__new__") ∧ PySem.HandSPX.refsVE bm = true := by
  unfold clsB at h
  split at h
  · rename_i c dd cd sl ho
    split at h
    · rename_i C' bm k0 k1 k2 k3 n k5 hm hs
      obtain ⟨h1, h⟩ := He.ba h
      obtain ⟨h2, h⟩ := He.ba h
      obtain ⟨h3, h⟩ := He.ba h
      obtain ⟨h4, h⟩ := He.ba h
      obtain ⟨h5, h6⟩ := He.ba h
      have e1 := of_decide_eq_true h1
      have e2 := of_decide_eq_true h2
      have e3 := of_decide_eq_true h3
      subst e1 e2 e3
      obtain ⟨nm0, bs, mro, ns, qn, hd, sn, sub, ab, col, del⟩ := cd
      dsimp only at hm h4 h5
      subst hm h5
      have e4 : del = false := by simpa using h4
      subst e4
      have es : sl = #[k0, k1, k2, k3, some (.builtin "ValueError.__new__"), k5] := by
        obtain ⟨l⟩ := sl
        simp only at hs
        rw [hs]
      subst es
      exact ⟨nm0, qn, ns, bs, bm, sn, sub, ab, col, dd, k0, k1, k2, k3, k5, ho, h6⟩
    · cases h
  · cases h
def ecB (K : PySem.W.Frag) (x : Str) : Bool :=
  clsB K (ga K x) && (He.eqO (PySem.W.findIn K (.ref (ga K x)) "__setattr__") (some (some (.builtin "object.__setattr__"))) && (decide (PySem.W.typeIn K (.ref (ga K x)) = some (.type "type")) && (PySem.W.keepIn K (.ref (ga K x)) &&
  (He.eqO (PySem.W.findIn K (.ref (ga K x)) "value") (some none) && (He.eqO (PySem.W.findIn K (.ref (ga K x)) "__init__") (some (some (.ref (He.ma K (ga K x) "__init__")))) && decide (PySem.W.typeIn K (.ref (He.ma K (ga K x) "__init__")) = some (.type "function")))))))
theorem ecB_ok {K : PySem.W.Frag} {x : Str} (h : ecB K x = true) (e : ExcC K (ga K x)) : EC K (ga K x) (He.ma K (ga K x) "__init__") := by
  obtain ⟨h1, h⟩ := He.ba h
  obtain ⟨h2, h⟩ := He.ba h
  obtain ⟨h3, h⟩ := He.ba h
  obtain ⟨h4, h⟩ := He.ba h
  obtain ⟨h5, h⟩ := He.ba h
  obtain ⟨h6, h7⟩ := He.ba h
  exact ⟨⟨clsB_ok h1, He.eqO_ok h2, e.hs, of_decide_eq_true h3, h4⟩, e, He.eqO_ok h5, He.eqO_ok h6, of_decide_eq_true h7⟩
def kitP (K : PySem.W.Frag) (x y : Str) : Bool := decide (PySem.W.kitOne K (.ref (ga K x)) (.ref (ga K y)) = some (decide (x = y)))
def isB (K : PySem.W.Frag) (x : Str) : Bool := exB K (ga K x) && ((nm27.all fun y => kitP K x y) && (decide (PySem.W.kitOne K (.ref (ga K x)) (.ref (ga K "ShowError")) = some true) && decide (PySem.W.kitOne K (.ref (ga K x)) (.type "ValueError") = some true)))
def bareB (K : PySem.W.Frag) (x : Str) : Bool := PySem.W.excIn K (ga K x) He.veBase "ValueError.__new__" && PySem.W.keepIn K (.ref (ga K x))
def frees : List Str := ["sum", "max", "min", "len", "range", "repr", "dict", "list", "isinstance", "ValueError"]
def defNs : List Str := ["_law_purse", "_law_mixed", "_law_draw", "_law_purses", "_law_one_of", "_law_word", "_law_first", "_law_called", "_law_bare", "_law_code", "_law_is_error", "_law_right", "law"]
def allB (K : PySem.W.Frag) : Bool :=
  (frees.all fun x => (He.Fa.free x).ok K) && ((nm28.all fun x => (He.Fa.glo x).ok K) && ((defNs.all fun x => (He.Fa.glo x).ok K) && ((nm28.all fun x => isB K x) && ((nm.all fun x => ecB K x) && (bareB K "NothingToUndo" && (bareB K "NothingToRedo" && bareB K "ShowError"))))))
/-! ### the defs -/
def dInit (i : Nat) (x : Str) : He.DefD := ⟨(x, some "__init__"), "__init__", x ++ ".__init__", defArgs (initS i), defBody (initS i), defScope (initS i), [.non], []⟩
def dDef (i : Nat) (x : Str) : He.DefD := ⟨(x, none), x, x, defArgs (top i), defBody (top i), defScope (top i), [], []⟩
def fns : List He.DefD := ((List.range 25).map fun i => dInit (i + 2) (nm.getD i "")) ++ ((List.range 13).map fun i => dDef (i + 30) (defNs.getD i ""))
end K01

set_option maxHeartbeats 0
namespace K01
open PySem PySem.Spec PyProof.Rows L2 G1
abbrev AlM : Type := Bool × List He.FnW
def obsM (K : PySem.W.Frag) : AlM := (allB K && fns.all fun d => d.ok K, fns.map fun d => He.fnW K d.at_)
def valM : AlM := (true, fns.map He.DefD.val)
def obsG (g : Addr → Option Obj) : AlM := obsM (He.frG g (He.asD g 5))
def hk : PySem.W.Hook where
  α := AlM
  obs := fun s => obsG s.heap.get?
  val := fun _ => valM
  says := fun _ h => ∃ K : PySem.W.Frag, K.In h ∧ obsM K = valM
  of := fun _ _ e => ⟨_, He.frG_in, e⟩
  keeps := fun _ _ _ ⟨K, hK, c⟩ k => ⟨K, PySem.W.Frag.In.keeps hK k, c⟩
def ob (s : PySem.W.SharedT) : AlM := obsG (HandSHeadRun.getT s)
theorem ob_eq (s : PySem.W.SharedT) : ob s = hk.obs s.abs := by
  have e : HandSHeadRun.getT s = s.abs.heap.get? := funext (HandSHeadRun.getT_eq s)
  unfold ob
  rw [e]
  rfl
abbrev R : PySem.W.OpenRow := PySem.W.OpenLaw.row PySem.Challenge.rw_cardpanel_k01_errors_made
def others : List Str := (([("ShowError" : Str)] ++ nm27 : List Str) ++ (["_law_purse", "_law_mixed", "_law_draw", "_law_purses", "_law_one_of", "_law_word", "_law_first", "_law_called", "_law_bare", "_law_code", "_law_is_error", "_law_right"] : List Str) : List Str)
theorem run (w : World) : HandSHeadRun.RunEq R (PySem.W.view R.prog [42]) hk ob 20000 others w := by
  intro os
  kernel_rfl
end K01

set_option maxHeartbeats 8000000
namespace K01
open PySem PySem.Spec PyProof.Rows L2 G1
theorem all_of {α : Type} {p : α → Bool} {l : List α} (h : l.all p = true) {x : α} (hx : x ∈ l) : p x = true := List.all_eq_true.mp h x hx
theorem fun_of {K : PySem.W.Frag} (c : obsM K = valM) {d : He.DefD} (h : d ∈ fns) : ∃ fd, FunD K d.name d.qual d.params d.body d.scope (d.dvs K) (d.kws K) (He.fAd K d.at_) fd := by
  have c1 : (allB K && fns.all fun d => d.ok K) = true := congrArg (fun z : AlM => z.1) c
  have c2 : fns.map (fun d => He.fnW K d.at_) = fns.map He.DefD.val := congrArg (fun z : AlM => z.2) c
  obtain ⟨i, hi, e⟩ := List.mem_iff_getElem.mp h
  have e2 : (fns.map fun d => He.fnW K d.at_)[i]? = (fns.map He.DefD.val)[i]? := by rw [c2]
  rw [List.getElem?_map, List.getElem?_map, List.getElem?_eq_getElem hi, e] at e2
  exact He.DefD.funD (Option.some.inj e2) (all_of (He.ba c1).2 h)
theorem def_in (j : Fin 13) : dDef (j.1 + 30) (defNs.getD j.1 "") ∈ fns := List.mem_append_right _ (List.mem_map.mpr ⟨j.1, List.mem_range.mpr j.2, rfl⟩)
theorem init_in (j : Fin 25) : dInit (j.1 + 2) (nm.getD j.1 "") ∈ fns := List.mem_append_left _ (List.mem_map.mpr ⟨j.1, List.mem_range.mpr j.2, rfl⟩)
theorem nm_ix {x : Str} (h : x ∈ nm) : ∃ j : Fin 25, nm.getD j.1 "" = x := by
  obtain ⟨i, hi, e⟩ := List.mem_iff_getElem.mp h
  exact ⟨⟨i, hi⟩, by rw [List.getD_eq_getElem?_getD, List.getElem?_eq_getElem hi, e]; rfl⟩
/-- every __init__ of the 25 classes is the same text, up to its place -/
theorem init_sc : ∀ j : Fin 25, FnScope iPs iPs (defScope (initS (j.1 + 2))) := by
  intro j
  have h : ∀ j : Fin 25, (defScope (initS (j.1 + 2))) = (defScope (initS 2)) := by decide +kernel
  rw [h j]
  exact ⟨rfl, rfl, rfl, by decide +kernel, rfl, by decide +kernel, by decide +kernel⟩
end K01

set_option maxHeartbeats 8000000
namespace K01
open PySem PySem.Spec PyProof.Rows L2 G1
def iAr (p1 p2 : Pos) (e : Expr) : Arguments := { posonlyargs := [], args := [{ arg := "self", annotation := none, pos := p1 }, { arg := "value", annotation := none, pos := p2 }], vararg := none, kwonlyargs := [], kw_defaults := [], kwarg := none, defaults := [e] }
section
variable {ql : Str} {p1 p2 : Pos} {e : Expr} {bd : List Stmt} {sc : Scope}
theorem bind2 (T : Addr) (kV doc pm : Value) (an : Option Addr) (cdv ct : Value) (us its : List Value) (h1 : us.length = 2) (h2 : its.length = 1) :
    ∃ k, bindArgs (PySem.W.fnOf "__init__" ql (iAr p1 p2 e) bd sc (.ref T) kV doc pm an cdv ct) ⟨us, []⟩ = seqItems? (.ref T) >>= k ∧ k (some its.toArray) = pure (iPs.zip (us ++ its.drop 1)) :=
  match us, its, h1, h2 with | [_, _], [_], _, _ => ⟨_, rfl, rfl⟩
theorem bind1 (T : Addr) (kV doc pm : Value) (an : Option Addr) (cdv ct : Value) (us its : List Value) (h1 : us.length = 1) (h2 : its.length = 1) :
    ∃ k, bindArgs (PySem.W.fnOf "__init__" ql (iAr p1 p2 e) bd sc (.ref T) kV doc pm an cdv ct) ⟨us, []⟩ = seqItems? (.ref T) >>= k ∧ k (some its.toArray) = pure (iPs.zip (us ++ its.drop 0)) :=
  match us, its, h1, h2 with | [_], [_], _, _ => ⟨_, rfl, rfl⟩
theorem bindK (T : Addr) (kV doc pm : Value) (an : Option Addr) (cdv ct : Value) (us its ws : List Value) (h1 : us.length = 1) (h2 : its.length = 1) (h3 : ws.length = 1) :
    ∃ k, bindArgs (PySem.W.fnOf "__init__" ql (iAr p1 p2 e) bd sc (.ref T) kV doc pm an cdv ct) ⟨us, [("value" : Str)].zip ws⟩ = seqItems? (.ref T) >>= k ∧ k (some its.toArray) = pure (iPs.zip (us ++ ws)) :=
  match us, its, ws, h1, h2, h3 with | [_], [_], [_], _, _, _ => ⟨_, rfl, rfl⟩
end
/-- what is read off the text of one such __init__ -/
def shapeB (a : Arguments) (b : List Stmt) : Bool := match a, b with
  | ⟨[], [⟨s1, none, _⟩, ⟨s2, none, _⟩], none, [], [], none, [_]⟩, [.Assign [.Attribute (.Name s3 _) s4 _] (.Name s5 _) _] => decide (s1 = "self") && (decide (s2 = "value") && (decide (s3 = "self") && (decide (s4 = "value") && decide (s5 = "value"))))
  | _, _ => false
theorem shapeB_ok {a : Arguments} {b : List Stmt} (h : shapeB a b = true) : (∃ p1 p2 e, a = iAr p1 p2 e) ∧ ∃ p1 p2 p3 p4, b = [.Assign [.Attribute (.Name "self" p1) "value" p2] (.Name "value" p3) p4] := by
  unfold shapeB at h
  split at h
  · obtain ⟨h1, h⟩ := He.ba h
    obtain ⟨h2, h⟩ := He.ba h
    obtain ⟨h3, h⟩ := He.ba h
    obtain ⟨h4, h5⟩ := He.ba h
    rw [of_decide_eq_true h1, of_decide_eq_true h2, of_decide_eq_true h3, of_decide_eq_true h4, of_decide_eq_true h5]
    exact ⟨⟨_, _, _, rfl⟩, _, _, _, _, rfl⟩
  · cases h
theorem shapes : ∀ j : Fin 25, shapeB (defArgs (initS (j.1 + 2))) (defBody (initS (j.1 + 2))) = true := by decide +kernel
section
variable {P : Program} {w : World} {K : PySem.W.Frag} {mg : Str → Option Value} {base : Heap}
theorem errC_of {x : Str} (c : obsM K = valM) (hx : x ∈ nm) (E : EC K (ga K x) (He.ma K (ga K x) "__init__")) (gl : mg x = some (.ref (ga K x))) : ErrC P w K mg base x (ga K x) := by
  obtain ⟨j, hj⟩ := nm_ix hx
  obtain ⟨fd, F⟩ := fun_of c (init_in j)
  rw [hj] at F
  have F' : FunD K "__init__" (x ++ ".__init__") (defArgs (initS (j.1 + 2))) (defBody (initS (j.1 + 2))) (defScope (initS (j.1 + 2))) [.non] [] (He.ma K (ga K x) "__init__") fd := F
  obtain ⟨⟨q1, q2, qe, ea⟩, p1, p2, p3, p4, e⟩ := shapeB_ok (shapes j)
  rw [ea, e] at F'
  obtain ⟨d1, v1, b1⟩ := FunD.binds1 (ps := iPs) F' 2 1 (by simp) rfl bind2
  obtain ⟨d0, v0, b0⟩ := FunD.binds1 (ps := iPs) F' 1 0 (by simp) rfl bind1
  obtain ⟨its, bk⟩ := FunD.kbindsD (ps := iPs) F' 1 [("value" : Str)] (fun us _ ws => us ++ ws) (by simp) (fun r1 _ r3 => r1.append r3) bindK
  have e1 : d1 = [] := by
    cases v1
    rfl
  subst e1
  refine ⟨⟨_, fd, d0, _, E, ?_, b1, b0, v0, bk⟩, gl⟩
  refine okN F' (init_sc j) (fun vs H Q Ex h => ?_) (fun cdv A outer s H vs Q Ex hr h => ?_)
  · obtain ⟨_, _, rfl, _⟩ := h
    rfl
  · obtain ⟨a, v, rfl, ha, k⟩ := h
    have sc := init_sc j
    refine ⟨tOst K "value" (tVar 0) (tVar 1), ?_, ?_⟩
    · exact pss_one (ps_ost (pe_var (x := "self") rfl (sc.par "self" (List.mem_cons_self)|>.imp id .inl) (by decide) (by decide)) (pe_var (x := "value") rfl (sc.par "value" (List.mem_cons_of_mem _ List.mem_cons_self)|>.imp id .inl) (by decide) (by decide)))
    · exact ⟨v, rfl, _, rfl, a, ga K x, rfl, E.t, E.nv, .inl ⟨ha, fun dx n ne => k dx n ne⟩⟩
end
end K01

set_option maxHeartbeats 8000000
namespace K01
open PySem PySem.Spec PyProof.Rows L2 G1
structure Facts (K : PySem.W.Frag) (mg : Str → Option Value) : Prop where
  lib : Lib K mg
  lib2 : Lib2 K mg
  isf : IsF K mg
  ec : ∀ x ∈ nm, EC K (ga K x) (He.ma K (ga K x) "__init__")
  bu : Bare K "NothingToUndo"
  br : Bare K "NothingToRedo"
  bs : Bare K "ShowError"
  gd : ∀ x ∈ defNs, mg x = some (.ref (ga K x))
theorem nm_28 {x : Str} (h : x ∈ nm) : x ∈ nm28 := List.mem_append_left _ (List.mem_append_left _ h)
theorem bare_ok {K : PySem.W.Frag} {x : Str} (h : bareB K x = true) : Bare K x := by
  obtain ⟨h1, h2⟩ := He.ba h
  exact ⟨h1, h2⟩
theorem facts_of {K : PySem.W.Frag} {h : Heap} {mg : Str → Option Value} (X : K.In h) (G : h.Ns mainGlobals mg) (c : obsM K = valM) : Facts K mg := by
  have c1 : (allB K && fns.all fun d => d.ok K) = true := congrArg (fun z : AlM => z.1) c
  obtain ⟨h1, c2⟩ := He.ba (He.ba c1).1
  obtain ⟨h2, c3⟩ := He.ba c2
  obtain ⟨h3, c4⟩ := He.ba c3
  obtain ⟨h4, c5⟩ := He.ba c4
  obtain ⟨h5, c6⟩ := He.ba c5
  obtain ⟨h6, c7⟩ := He.ba c6
  obtain ⟨h7, h8⟩ := He.ba c7
  have fr : ∀ x ∈ frees, mg x = none := fun x hx => He.free_ok X G (all_of h1 hx)
  have gl : ∀ x ∈ nm28, mg x = some (.ref (ga K x)) := fun x hx => He.glo_ok X G (all_of h2 hx)
  have gd : ∀ x ∈ defNs, mg x = some (.ref (ga K x)) := fun x hx => He.glo_ok X G (all_of h3 hx)
  have isb : ∀ x ∈ nm28, ExcC K (ga K x) ∧ (∀ y ∈ nm27, PySem.W.kitOne K (.ref (ga K x)) (.ref (ga K y)) = some (decide (x = y))) ∧ PySem.W.kitOne K (.ref (ga K x)) (.ref (ga K "ShowError")) = some true ∧ PySem.W.kitOne K (.ref (ga K x)) (.type "ValueError") = some true := by
    intro x hx
    obtain ⟨a1, a2⟩ := He.ba (all_of h4 hx)
    obtain ⟨a3, a4⟩ := He.ba a2
    obtain ⟨a5, a6⟩ := He.ba a4
    exact ⟨exB_ok a1, fun y hy => of_decide_eq_true (all_of a3 hy), of_decide_eq_true a5, of_decide_eq_true a6⟩
  exact ⟨⟨fr _ (by decide), fr _ (by decide), fr _ (by decide), fr _ (by decide), fr _ (by decide)⟩, ⟨fr _ (by decide), fr _ (by decide), fr _ (by decide)⟩,
    ⟨fun x hx => (isb x hx).1, gl, fun x hx => (isb x hx).2.1, fun x hx => (isb x hx).2.2.1, fun x hx => (isb x hx).2.2.2, fr _ (by decide), fr _ (by decide)⟩,
    fun x hx => ecB_ok (all_of h5 hx) (isb x (nm_28 hx)).1, bare_ok h6, bare_ok h7, bare_ok h8, gd⟩
theorem law_of {P : Program} {w : World} {K : PySem.W.Frag} {h : Heap} {mg : Str → Option Value} {f : Addr} (X : K.In h) (G : h.Ns mainGlobals mg) (hfa : mg ("law" : Str) = some (.ref f)) (c : obsM K = valM) :
    ∃ fd : FuncData, (∀ (s : Shared) (v : Value), BindsTo s fd ⟨[v], []⟩ [("_law_script", v)]) ∧ ∀ base : Heap, K.In base → base.Ns mainGlobals mg → FnG P w K mg base 4 f fd ["_law_script"] (spLaw K) := by
  have T := facts_of X G c
  obtain ⟨fd0, F0⟩ := fun_of c (def_in 0)
  obtain ⟨fd1, F1⟩ := fun_of c (def_in 1)
  obtain ⟨fd2, F2⟩ := fun_of c (def_in 2)
  obtain ⟨fd3, F3⟩ := fun_of c (def_in 3)
  obtain ⟨fd4, F4⟩ := fun_of c (def_in 4)
  obtain ⟨fd5, F5⟩ := fun_of c (def_in 5)
  obtain ⟨fd6, F6⟩ := fun_of c (def_in 6)
  obtain ⟨fd7, F7⟩ := fun_of c (def_in 7)
  obtain ⟨fd8, F8⟩ := fun_of c (def_in 8)
  obtain ⟨fd9, F9⟩ := fun_of c (def_in 9)
  obtain ⟨fd10, F10⟩ := fun_of c (def_in 10)
  obtain ⟨fd11, F11⟩ := fun_of c (def_in 11)
  obtain ⟨fd12, F12⟩ := fun_of c (def_in 12)
  have e := hfa.symm.trans (T.gd "law" (by decide))
  cases e
  have H0 : FnP K "_law_purse" sPurse (ga K "_law_purse") fd0 := F0
  have H1 : FnP K "_law_mixed" sMixed (ga K "_law_mixed") fd1 := F1
  have H2 : FnP K "_law_draw" sDraw (ga K "_law_draw") fd2 := F2
  have H3 : FnP K "_law_purses" sPurses (ga K "_law_purses") fd3 := F3
  have H4 : FnP K "_law_one_of" sOne (ga K "_law_one_of") fd4 := F4
  have H5 : FnP K "_law_word" sWord (ga K "_law_word") fd5 := F5
  have H6 : FnP K "_law_first" sFirst (ga K "_law_first") fd6 := F6
  have H7 : FnP K "_law_called" sCalled (ga K "_law_called") fd7 := F7
  have H8 : FnP K "_law_bare" sBare (ga K "_law_bare") fd8 := F8
  have H9 : FnP K "_law_code" sCode (ga K "_law_code") fd9 := F9
  have H10 : FnP K "_law_is_error" sIsE (ga K "_law_is_error") fd10 := F10
  have H11 : FnP K "_law_right" sRight (ga K "_law_right") fd11 := F11
  have H12 : FnP K "law" sLaw (ga K "law") fd12 := F12
  have b := FunD.bindsA (ps := ["_law_script"]) H12 fun _ _ _ _ _ _ us hl => match us, hl with | [_], _ => rfl
  refine ⟨fd12, fun s v => b s [v] rfl, fun base _ _ => ?_⟩
  have AE : AllE P w K mg base := fun x hx => errC_of c hx (T.ec x hx) (T.isf.gl x (nm_28 hx))
  have XC : ∀ x ∈ nm, ∃ fI, EC K (ga K x) fI := fun x hx => ⟨_, T.ec x hx⟩
  have G2 := ok_draw (P := P) (w := w) (base := base) H2 T.lib H1 (T.gd "_law_mixed" (by decide))
  have DP : Df P w K mg base 2 "_law_purses" sPurses ["_law_script", "_law_few"] (spPurses K) :=
    ⟨_, fd3, H3, T.gd _ (by decide), ok_purses H3 T.lib H0 (T.gd _ (by decide)), FunD.bindsN H3 fun _ _ _ _ _ _ us hl => match us, hl with | [_, _], _ => rfl⟩
  have DW : Df P w K mg base 3 "_law_word" sWord ["_law_purse_here"] spWord :=
    ⟨_, fd5, H5, T.gd _ (by decide), ok_word H5 T.lib H2 (T.gd _ (by decide)) G2, FunD.bindsN H5 fun _ _ _ _ _ _ us hl => match us, hl with | [_], _ => rfl⟩
  have DO : Df P w K mg base 3 "_law_one_of" sOne ["_law_purse_here", "_law_some"] (spOne K) :=
    ⟨_, fd4, H4, T.gd _ (by decide), ok_one H4 T.lib H2 (T.gd _ (by decide)) G2, FunD.bindsN H4 fun _ _ _ _ _ _ us hl => match us, hl with | [_, _], _ => rfl⟩
  have D1 : Df P w K mg base 3 "_law_first" sFirst ["_law_thing"] (spFirst K) :=
    ⟨_, fd6, H6, T.gd _ (by decide), ok_first H6 AE, FunD.bindsN H6 fun _ _ _ _ _ _ us hl => match us, hl with | [_], _ => rfl⟩
  have D2 : Df P w K mg base 3 "_law_called" sCalled ["_law_thing"] (spFirst K) :=
    ⟨_, fd7, H7, T.gd _ (by decide), ok_called H7 AE, FunD.bindsN H7 fun _ _ _ _ _ _ us hl => match us, hl with | [_], _ => rfl⟩
  have D0 : Df P w K mg base 3 "_law_bare" sBare [] (spBare K) :=
    ⟨_, fd8, H8, T.gd _ (by decide), ok_bare H8 AE, FunD.bindsN H8 fun _ _ _ _ _ _ us hl => match us, hl with | [], _ => rfl⟩
  have GC := ok_code (P := P) (w := w) (base := base) H9 T.isf T.lib
  have GE := ok_isE (P := P) (w := w) (base := base) H10 T.isf
  have DC : Df P w K mg base 1 "_law_code" sCode ["_law_error"] (spCode K) :=
    ⟨_, fd9, H9, T.gd _ (by decide), GC, FunD.bindsN H9 fun _ _ _ _ _ _ us hl => match us, hl with | [_], _ => rfl⟩
  have DE : Df P w K mg base 1 "_law_is_error" sIsE ["_law_error"] (spIsE K) :=
    ⟨_, fd10, H10, T.gd _ (by decide), GE, FunD.bindsN H10 fun _ _ _ _ _ _ us hl => match us, hl with | [_], _ => rfl⟩
  have DR : DfG P w K mg base 2 "_law_right" sRight ["_law_some", "_law_noted"] (spRight K) :=
    ⟨_, fd11, H11, T.gd _ (by decide), ok_right H11 T.isf T.lib T.lib2.repr XC H9 (T.gd _ (by decide)) GC H10 (T.gd _ (by decide)) GE, FunD.bindsN H11 fun _ _ _ _ _ _ us hl => match us, hl with | [_, _], _ => rfl⟩
  exact ok_law H12 T.isf T.lib T.lib2 XC DP DW DO D1 D2 D0 DC DE DR T.bu T.br T.bs
end K01

set_option maxHeartbeats 0
open PySem PySem.W PySem.Calls PyProof.Rows
theorem PySem.Challenge.cw_cardpanel_k01_errors_made_holds : PySem.Challenge.rw_cardpanel_k01_errors_made.Holds := by
  w_on; o_law
  refine HandSHeadRun.head_any (r := K01.R) (q := view K01.R.prog [42]) (H := K01.hk) (ob := K01.ob) (M := 20000) (loose := K01.others) (d := HandSHeadRun.topDef K01.R.prog 42) (kwd := []) K01.ob_eq
    (by kernel_rfl) (fun s => by kernel_rfl) K01.run (by kernel_rfl) (by kernel_rfl) (by kernel_rfl) (by rfl) (by first | assumption | decide +kernel) (by decide +kernel) ⟨rfl, rfl, rfl, rfl, rfl, by decide +kernel⟩ ?hw ?hc
  case hw => w_witness2
  case hc =>
    refine G1.walk_ofG (l := PySem.Challenge.rw_cardpanel_k01_errors_made) (n := 63) (k := 4) (x := "_law_script") rfl (by decide) (by kernel_rfl) ⟨rfl, by decide, by decide⟩ ?F
    intro w mg fa h Y G hmg0
    obtain ⟨K, KX, c⟩ := Y
    have hmg : mg ("law" : PySem.Str) = some (.ref fa) := by
      have e : (HandSHeadRun.topDef K01.R.prog 42).name = ("law" : PySem.Str) := by kernel_rfl
      rw [← e]
      exact hmg0
    obtain ⟨fd, hb, hF⟩ := K01.law_of (P := PySem.Challenge.rw_cardpanel_k01_errors_made.prog) (w := w) KX G hmg c
    exact ⟨K, fd, K01.spLaw K, KX, hb, fun H a ns hl _ hS => ⟨a, ns, rfl, hS, fun _ => rfl⟩, hF⟩
