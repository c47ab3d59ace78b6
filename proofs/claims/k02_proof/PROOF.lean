import PyProof.Rows.All
import Wide.All
import OpenK.AllK
import Wide.FinOn
import KE.KStateDown
import HandS.ForMost
import HandS.Exc
import HandS.ExcOwn
import HandS.ExcInit
import HandS.ExcValue
import HandS.IsInst
import HandS.ExcIs
import HandS.Wide
import HandS.WideBits
import HandS.Defaults
import HandS.Head0
import HandS.Head1
import HandS.Head2
import HandS.HeadEnd
import HandS.HeadHook1
import HandS.HeadHook2
import HandS.Strs
import HandS.Set
import PyProof.EqAt
import PyProof.EqKinds
import PyProof.NeKinds
import PyProof.InstNe
import HandS.TryMany
import OpenK.KOps
import PySem.Challenge.RW_cardpanel_k02_panels_made
import HandS.More
import HandS.Style
import HandS.Iter
import HandS.Text
import HandS.ExcField
import HandS.Deep
import HandS.MakeKw
set_option Elab.async false
set_option linter.all false
set_option maxRecDepth 100000
set_option maxHeartbeats 4000000
/-! Own rules over the hand layer: calls where no repr runs, repr of data, powers. -/
namespace G1
open PySem PySem.Spec PyProof.Rows L2
/-- no guard of a repr stands around -/
abbrev Gd (A : Around) : Prop := A.guards = some []
/-- a def's promise where no guard stands around -/
structure FnG (P : Program) (w : World) (K : PySem.W.Frag) (mg : Str → Option Value) (base : Heap) (k : Nat) (f : Addr) (fd : FuncData) (ps : List Str) (sp : Sp) : Prop where
  len : ∀ vs H Q E, sp vs H Q E → vs.length = ps.length
  run : ∀ (A : Around) (outer : List Env) (s : Shared) (H : Hp) (args : Args) (us : List Value) (vs : List V) (Q : VK) (E : XK), Gd A → Room k A → Env0 P w K mg base A outer s H →
    BindsTo s fd args (ps.zip us) → Vals vs us → sp vs H Q E → codeAny (model P w) A (.call (.ref f) args) (CR CX0 outer P w H s Q E) s
section
variable {P : Program} {w : World} {K : PySem.W.Frag} {mg : Str → Option Value} {base : Heap}
theorem FnG.body {k : Nat} {f : Addr} {nm ql : Str} {pr : Arguments} {bd : List Stmt} {sc : Scope} {dV kV doc pm cdv ct oc : Value} {an od : Option Addr}
    {osl : Array (Option Value)} {N ps : List Str} {sp : Sp} (lk : K.lookup f = some ⟨oc, od, .func (PySem.W.fnOf nm ql pr bd sc dV kV doc pm an cdv ct), osl⟩)
    (hcd : PySem.W.codeIn K cdv ql = true) (S : FnScope N ps sc) (len : ∀ vs H Q E, sp vs H Q E → vs.length = ps.length)
    (hb : ∀ (A : Around) (outer : List Env) (s : Shared) (H : Hp) (vs : List V) (Q : VK) (E : XK), Gd A → Room k (A.deeper (envOfC ql sc s.heap.objs.size f cdv)) → sp vs H Q E →
      ∃ t, PSs (cxOf CX0 P w K mg base N ql sc f cdv A outer s H E) bd t ∧ t { nx := fun _ H' => Q .non H', rt := Q } (start N vs) H) :
    FnG P w K mg base (k + 1) f (PySem.W.fnOf nm ql pr bd sc dV kV doc pm an cdv ct) ps sp := by
  refine ⟨len, fun A outer s H args us vs Q E hg hr e0 => ?_⟩
  -- the library's rule for every surroundings, asked of a promise that holds at these alone
  intro hbi r hsp
  have hl := len _ _ _ _ hsp
  have KX : K.In s.heap := e0.mod.kin.keeps fun b o e => (e0.bs b o e).1
  have hkd : ∀ y ∈ ps.zip us, sc.names.lookup y.1 = some .local ∨
      (sc.names.lookup y.1 = some .cell ∧ ((cellsFrom (s.heap.objs.size + 1) sc.names []).lookup y.1).isSome = true) := by
    rintro ⟨n, v⟩ hy
    cases S.par n (List.of_mem_zip hy).1 with
    | inl q => exact .inl q
    | inr q => exact .inr ⟨q, PySem.W.cellsFrom_some _ _ _ (.inl q)⟩
  apply codeAny_call_function hr.depth (KX _ _ lk) rfl S.co S.gen rfl (PySem.W.codeRec_of KX hcd) (hbi _ _ _ _ _)
  apply wpAny_newFunctionEnv_cells S.kind hkd
  rintro env rfl s1 x
  refine ⟨(e0.mod.nolimit.keeps fun b o e => (e0.bs b o e).1).keeps x.toInCall.keep, codeAny_func ?_⟩
  obtain ⟨t, ht, hq⟩ := hb A outer s H vs Q E hg (hr.deeper _) hsp
  have run := ht.run [] s1 (start N vs) H _ (inv_start S hr.hd e0 hl r x) hq
  refine wpAny_mono run ?_ (fun _ _ h => h)
  rintro (_ | _ | _ | u) s' hs
  · obtain ⟨σ', H', J, q⟩ := hs
    exact ⟨.non, H', J.os, J.bare, J.base, J.hok, rfl, q⟩
  · obtain ⟨_, _, _, q⟩ := hs
    exact q.elim
  · obtain ⟨_, _, _, q⟩ := hs
    exact q.elim
  · obtain ⟨v, σ', H', J, rv, q⟩ := hs
    exact ⟨v, H', J.os, J.bare, J.base, J.hok, rv, q⟩
end
end G1

set_option maxHeartbeats 4000000
namespace G1
open PySem PySem.Spec PyProof.Rows L2
section
variable {X : Cx} {k : Nat} {f : Addr} {fd : FuncData} {ps : List Str} {sp : Sp} {dvs : List V} {ds : List Value} {x : Str} {p pos : Pos} {e : Expr} {es : List Expr} {t : TA}
theorem go_fn {pins : List (Addr × Obj)} {σ : L2.St} {H : Hp} {s : Shared} {Q : VK} {us : List Value} {vs : List V} (F : FnG X.prog X.w X.K X.mg X.base k f fd ps sp) (hg : Gd X.A) (hr : Room k X.A)
    (hb : Binds X.K fd ps ds) (hd : Vals dvs ds) (I : Inv X pins σ H s) (r : Vals vs us) (h : sp (vs ++ dvs) H Q E0) :
    wpAny (model X.prog X.w) X.A (call (.ref f) us) (EP X pins σ Q) X.xe s := by
  have r2 : Vals (vs ++ dvs) (us ++ ds) := r.append hd
  have hl : (us ++ ds).length = ps.length := r2.length.symm.trans (F.len _ _ _ _ h)
  apply wpAny_call
  refine codeAny_mono (F.run X.A X.stack s H ⟨us, []⟩ (us ++ ds) (vs ++ dvs) Q E0 hg hr I.env0 (hb s us I.kIn hl) r2 h) ?_
  rintro (er | (_ | _ | _ | u)) s' hq
  · exact False.elim hq
  · exact hq.elim
  · exact hq.elim
  · exact hq.elim
  · exact I.after hq
theorem pe_callG (F : FnG X.prog X.w X.K X.mg X.base k f fd ps sp) (hgd : Gd X.A) (hr : Room k X.A) (hg : Gl X x) (hm : X.mg x = some (.ref f)) (hk : PySem.W.keepIn X.K (.ref f) = true)
    (hb : Binds X.K fd ps ds) (hd : Vals dvs ds) (ha : PA X (e :: es) t) (hdb : (x == ("__debug__" : Str)) = false := by decide)
    (he : starEach (e :: es) X.env = (false, eval e X.env) :: starEach es X.env := by rfl) (hpl : (backTo pos (starEach es X.env)).any (·.1) = false := by rfl) :
    PE X (.Call (.Name x p) (e :: es) [] pos) (tCall sp dvs E0 t) := by
  constructor
  intro pins s σ H Q I h
  apply wpAny_Call_Name_kw (ld_glob I hg hm ?_ hdb)
  exact PySem.W.callWith_K (h₀ := X.base) I.ok.mod.kin hk (thn (ha.run pos pins s σ H _ I h) fun us s1 ⟨vs, H1, I1, r, q⟩ => ⟨I1.kIn, go_fn F hgd hr hb hd I1 r q⟩) he hpl
end
/-! ### the law itself, called where no guard stands -/
theorem gd_caller : Gd callerA := rfl
section
variable {P : Program} {w : World} {K : PySem.W.Frag} {mg mb : Str → Option Value} {k : Nat} {fa a : Addr} {fd : FuncData} {x : Str} {sp : Sp} {s₁ : Shared} {vs : List Value} {ns : List Int}
/-- from an abstract heap in which nothing but the script is told -/
theorem law_at {H : Hp} (KX : K.In s₁.heap) (hns : s₁.heap.Ns mainGlobals mg) (hb : s₁.heap.Ns builtinsNs mb) (hbb : ∀ x : Str, x ≠ "__name__" → mb x = bootBuiltins x) (hlim : s₁.heap.NoLimit) (hg : s₁.gens = #[])
    (ha : s₁.heap.get? a = some { cls := .type "list", data := .seq vs.toArray }) (hr : Room k callerA)
    (F : ∀ base : Heap, K.In base → base.Ns mainGlobals mg → FnG P w K mg base k fa fd [x] sp) (hbind : ∀ (s : Shared) (u : Value), BindsTo s fd ⟨[u], []⟩ [(x, u)])
    (hO : Only H) (hS : SqL K H a (ns.map V.int)) (hok : HOk P w H s₁.heap) (hA : ∀ b, H b ≠ none → b = a) (hK : H a ≠ none → K.lookup a = none)
    (hsp : sp [.ref a] H (fun v _ => v = .bl true) fun _ _ _ => False) :
    codeAny (model P w) callerA (.call (.ref fa) ⟨[.ref a], []⟩) (fun r s' => r = .ok (.ret (.bool true)) ∧ OldK s₁.heap s'.heap ∧ s'.os = s₁.os ∧ AllBare s'.gens) s₁ := by
  have one : ∀ {b : Addr}, (∀ z, H b ≠ some z) → H b = none := fun {b} n => by
    cases q : H b with
    | none => rfl
    | some u => exact (n u q).elim
  have hid : ∀ {b : Addr} {o : Obj} {es : Array DictEntry} {ep : Nat}, s₁.heap.get? b = some o → o.data = .dict es ep → (hidT s₁.heap H).get? b = some o := by
    intro b o es ep e d
    refine hidT_get e (one fun z q => ?_)
    have eb := hA b (by rw [q]; simp)
    subst eb
    rw [ha] at e
    cases e
    exact (show Data.seq vs.toArray _ ≠ Data.dict es ep from fun z => by cases z) d
  have ns_ : ∀ {b : Addr} {m : Str → Option Value}, s₁.heap.Ns b m → (hidT s₁.heap H).Ns b m := by
    rintro b m ⟨o, es, ep, e, d, r⟩
    exact ⟨o, es, ep, hid e d, d, r⟩
  have KB : K.In (hidT s₁.heap H) := by
    intro b o e
    refine hidT_get (KX b o e) (one fun z q => ?_)
    have eb := hA b (by rw [q]; simp)
    subst eb
    rw [hK (by rw [q]; simp)] at e
    cases e
  obtain ⟨mc, l1, l2⟩ := hlim
  have M0 : Mod K mg (hidT s₁.heap H) := ⟨KB, ns_ hns, ⟨mb, ns_ hb, hbb⟩, ⟨mc, ns_ l1, l2⟩⟩
  have nofs : ∀ {b : Addr}, b ∉ frs ([] : List Env) := fun {b} z => by
    have z' : b ∈ ([] : List Addr) := z
    simp at z'
  have E1 : Env0 P w K mg (hidT s₁.heap H) callerA [] s₁ H := {
    frames := rfl
    mod := M0
    bs := fun b o e => of_hidT e
    bsz := Nat.le_of_eq (hidT_size _ _)
    funs := trivial
    frf := fun b z => (nofs z).elim
    hok := hok
    bare := .of_eq hg }
  refine codeAny_mono ((F _ KB (ns_ hns)).run callerA [] s₁ H ⟨[.ref a], []⟩ [.ref a] [.ref a] _ _ gd_caller hr E1 (hbind s₁ (.ref a)) (.cons rfl .nil) hsp) ?_
  rintro (er | (_ | _ | _ | u)) s' h
  · exact False.elim h
  · exact False.elim h
  · exact False.elim h
  · exact False.elim h
  · obtain ⟨v, H', eos, bare, un, hok', r', q⟩ := h
    have q' : v = .bl true := q
    subst q'
    have eu : u = Value.bool true := r'
    subst eu
    refine ⟨rfl, OldK.of_keep fun b o e => ?_, eos, bare⟩
    rcases hO b with z | ⟨ob, xs, z⟩
    · exact un.keep b o e z nofs (by simp)
    · obtain ⟨e2, _⟩ := hok' b _ (un.frzs b ob _ z)
      obtain ⟨e1, _⟩ := hok b _ z
      rw [e] at e1
      cases e1
      exact e2
theorem law_callG (KX : K.In s₁.heap) (hns : s₁.heap.Ns mainGlobals mg) (hb : s₁.heap.Ns builtinsNs mb) (hbb : ∀ x : Str, x ≠ "__name__" → mb x = bootBuiltins x) (hlim : s₁.heap.NoLimit) (hg : s₁.gens = #[])
    (ha : s₁.heap.get? a = some { cls := .type "list", data := .seq vs.toArray }) (hi : IntsAre vs ns) (hl : ns.length ≤ sizeLine) (hr : Room k callerA)
    (F : ∀ base : Heap, K.In base → base.Ns mainGlobals mg → FnG P w K mg base k fa fd [x] sp) (hbind : ∀ (s : Shared) (u : Value), BindsTo s fd ⟨[u], []⟩ [(x, u)])
    (hsp : ∀ H : Hp, Only H → SqL K H a (ns.map V.int) → sp [.ref a] H (fun v _ => v = .bl true) fun _ _ _ => False) :
    codeAny (model P w) callerA (.call (.ref fa) ⟨[.ref a], []⟩) (fun r s' => r = .ok (.ret (.bool true)) ∧ OldK s₁.heap s'.heap ∧ s'.os = s₁.os ∧ AllBare s'.gens) s₁ := by
  have rv := vals_ints hi
  cases hk : K.lookup a with
  | some o =>
    have e := KX a o hk
    rw [ha] at e
    cases e
    have S : SqL K (fun _ => none) a (ns.map V.int) := .inr ⟨_, vs.toArray, _, hk, rfl, rfl, rfl, by rw [List.size_toArray, hi.length]; exact hl, by simpa using rv⟩
    exact law_at KX hns hb hbb hlim hg ha hr F hbind (fun _ => .inl rfl) S (fun _ _ z => nomatch z) (fun _ z => (z rfl).elim) (fun z => (z rfl).elim) (hsp _ (fun _ => .inl rfl) S)
  | none =>
    have yes : ∀ u : HO, (fun b : Addr => if b = a then some u else none) a = some u := fun u => if_pos rfl
    have no : ∀ {u : HO} {b : Addr}, b ≠ a → (fun b : Addr => if b = a then some u else none) b = none := fun {u b} n => if_neg n
    have O : Only (fun b : Addr => if b = a then some (HO.frz { cls := .type "list", data := .seq vs.toArray } (.lst (ns.map V.int))) else none) := by
      intro b
      by_cases q : b = a
      · exact .inr ⟨_, _, if_pos q⟩
      · exact .inl (if_neg q)
    have S := hsp _ O (.inl (.inr ⟨_, yes _⟩))
    refine law_at KX hns hb hbb hlim hg ha hr F hbind O (.inl (.inr ⟨_, yes _⟩)) (fun b u z => ?_) (fun b z => ?_) (fun _ => hk) S
    · by_cases q : b = a
      · subst q
        have z' := (yes _).symm.trans z
        cases z'
        exact ⟨ha, by rw [List.length_map]; exact hl, vs, _, rv, ha⟩
      · rw [if_neg q] at z
        cases z
    · by_cases q : b = a
      · exact q
      · exact (z (no q)).elim
end
theorem walk_ofG {l : PySem.W.OpenLaw} {n k : Nat} {q : Program} {loose : List Str} {XP : (Str → Option Value) → Heap → Prop} {YP : World → Heap → Prop} {d : DefRec} {x : Str}
    (hn : l.most = some n) (hn2 : n ≤ sizeLine) (hdf : d.params.defaults = []) (hr : Room k callerA)
    (F : ∀ (w : World) (mg : Str → Option Value) (fa : Addr) (h : Heap), YP w h → h.Ns mainGlobals mg → mg d.name = some (.ref fa) →
      ∃ (K : PySem.W.Frag) (fd : FuncData) (sp : Sp), K.In h ∧ (∀ (s : Shared) (u : Value), BindsTo s fd ⟨[u], []⟩ [(x, u)]) ∧
        (∀ (H : Hp) (a : Addr) (ns : List Int), ns.length ≤ n → Only H → SqL K H a (ns.map V.int) → sp [.ref a] H (fun v _ => v = .bl true) fun _ _ _ => False) ∧
        ∀ base : Heap, K.In base → base.Ns mainGlobals mg → FnG l.prog w K mg base k fa fd [x] sp) :
    PySem.W.WalkO q loose XP YP l.row.toRowW d [] (fun f vs => PySem.call f vs) := by
  apply Att.attach_call hn hdf
  intro w s₀ s₁ mg mb fa o pm cd doc a vs ns G Y ho hd hcd hmg hobj hints hlen hg
  obtain ⟨K, fd, sp, KX, hb, hsp, hF⟩ := F w mg fa _ Y G.T.g hmg
  exact law_callG KX G.T.g G.T.b G.T.builtins G.T.nolimit hg hobj hints (Nat.le_trans hlen hn2) hr hF hb fun H hO hS => hsp H a ns hlen hO hS
end G1

set_option maxHeartbeats 4000000
/-! C(name = v), C an own exception class over ValueError with an __init__ of its own. -/
namespace G1
open PySem PySem.W PySem.Calls PyProof.Rows PySem.HandSPX
section
variable {prog : Program} {w : World} {A : Around} {E : Value → Shared → Prop} {R : Result → Shared → Prop} {h : Heap} {g : Array GenState} {d : Drawn} {t : Nat} {os : OsState}
variable {nm q : Str} {C N : Addr} {bs bm : List Value} {hdct : Bool} {sn : List Str} {sub : List Value} {ab : Bool} {col : Option Bool} {dd : Option Addr} {k0 k1 k2 k3 k5 : Option Value}
abbrev veC (nm q : Str) (C N : Addr) (bs bm : List Value) (hdct : Bool) (sn : List Str) (sub : List Value) (ab : Bool) (col : Option Bool) (dd : Option Addr) (k0 k1 k2 k3 k5 : Option Value) : Obj :=
  excClassObj nm q C N bs bm hdct sn sub ab col dd k0 k1 k2 k3 k5 "ValueError.__new__"
theorem kw_new (hb : refsVE bm = true) {v : Value} {y : Str} {Q : Unit → Shared → Prop}
    (hC : h.get? C = some (veC nm q C N bs bm hdct sn sub ab col dd k0 k1 k2 k3 k5)) (hq : Q () ⟨h, g, d, t, os⟩) :
    wpAny (model prog w) A (checkBuiltinCall "ValueError.__new__" ⟨[.ref C], [(y, v)]⟩) Q E ⟨h, g, d, t, os⟩ := by
  have F := F.excBase_ValueError
  have hc : (Value.ref C :: bm).contains (.type "ValueError") = true := by
    rw [List.contains_cons, refsVE_contains "ValueError" bm hb]
    rfl
  have star := F.noStar
  simp only [checkBuiltinCall, F.newKind, F.newSplit, F.newRow]
  repeat (first
    | refine wpAny_loadPart_at hC ?_
    | (refine wpAny_isSubtype_exc hC ?_; rw [hc])
    | refine wpAny_staticBase_exc hC ?_
    | refine wpAny_madeBy_exc hC ?_
    | simp only [bne_self_eq_false, Bool.false_eq_true, if_false]
    | wp_step)
  exact hq
theorem kw_made (hb : refsVE bm = true) {v : Value} {y : Str}
    (hC : h.get? C = some (veC nm q C N bs bm hdct sn sub ab col dd k0 k1 k2 k3 k5))
    (hq : R (.ok (.ret (.ref (h.objs.size + 1)))) ⟨(h.push (W.kdv_tup [])).push (excO C h.objs.size), g, d, t, os⟩) :
    codeAny (model prog w) A (.builtin "ValueError.__new__" ⟨[.ref C], [(y, v)]⟩) R ⟨h, g, d, t, os⟩ := by
  have F := F.excBase_ValueError
  have ends := F.ends
  have c1 : (Value.ref C :: bm).contains (.type "ValueError") = true := by
    rw [List.contains_cons, refsVE_contains "ValueError" bm hb]
    rfl
  have c2 : (Value.ref C :: bm).contains (.type "AttributeError") = false := by
    rw [List.contains_cons, refsVE_contains "AttributeError" bm hb]
    rfl
  have c3 : (Value.ref C :: bm).contains (.type "NameError") = false := by
    rw [List.contains_cons, refsVE_contains "NameError" bm hb]
    rfl
  refine codeAny_builtinAt F.entry ?_
  unfold Builtin.«BaseException.__new__»
  refine PySem.wpAt_bind ?_
  show PySem.wpAt _ _ _ (stack >>= _) _ _ _
  refine PySem.wpAt_bind (PySem.wpAt_stack fun p below => PySem.wpAt_of_wpAny ?_)
  wp_walk
  refine PySem.wpAt_of_wpAny ?_
  rw [F.owner]
  repeat (first
    | with_reducible refine wpAny_madeHere_exc F.canon hC ?_
    | with_reducible refine wpAny_loadPart_at hC ?_
    | (with_reducible refine wpAny_isSubtype_exc hC ?_; first | rw [c1] | rw [c2] | rw [c3])
    | wp_step)
  show R _ _
  rw [Heap.size_push]
  exact hq
theorem kw_chkT {v : Value} {y : Str} {Q : Unit → Shared → Prop}
    (hC : h.get? C = some (veC nm q C N bs bm hdct sn sub ab col dd k0 k1 k2 k3 k5)) (hq : Q () ⟨h, g, d, t, os⟩) :
    wpAny (model prog w) A (checkBuiltinCall "type.__call__" ⟨[.ref C], [(y, v)]⟩) Q E ⟨h, g, d, t, os⟩ := by
  have z := tc_sub
  have hT : (⟨h, g, d, t, os⟩ : Shared).TypeIs (.ref C) "type" := ⟨_, hC, rfl⟩
  simp only [checkBuiltinCall, tc_kind, tc_split]
  repeat (any_goals (first
    | assumption
    | with_reducible refine wpAny_loadPart_at hC ?_
    | with_reducible refine wpAny_onRaise ?_
    | with_reducible refine wpAny_map ?_
    | wp_step))
theorem kw_typeCall (hb : refsVE bm = true) {v : Value} {y : Str} {fI : Addr} {Q : PySem.Fin → Shared → Prop}
    (hC : h.get? C = some (veC nm q C N bs bm hdct sn sub ab col dd k0 k1 k2 k3 k5))
    (hi : W.Looks (model prog w) h (typeLookup (.ref C) "__init__") (some (.ref fI))) (hs : ∀ self, W.Looks (model prog w) h (bindSpecial (.ref fI) self) (.ref fI, [self]))
    (hq : codeAny (model prog w) A (.call (.ref fI) ⟨[.ref (h.objs.size + 1)], [(y, v)]⟩)
      (fun r s' => match r with | .ok (.ret u) => u = .none ∧ Q (.done (.ret (.ref (h.objs.size + 1)))) s' | .ok _ => False | .error e => E e s')
      ⟨(h.push (W.kdv_tup [])).push (excO C h.objs.size), g, d, t, os⟩) :
    wpAny (model prog w) A (Builtin.«type.__call__» ⟨[.ref C], [(y, v)]⟩) Q E ⟨h, g, d, t, os⟩ := by
  have F := F.excBase_ValueError
  repeat (first | with_reducible refine wpAny_loadPart_at hC ?_ | with_reducible refine wpAny_madeBy_exc hC ?_ | wp_step)
  apply codeAny_call_builtin_code (Code.quiet_builtin _ F.quiet) (kw_new hb hC ?_)
  apply kw_made hb hC
  show wpAny _ _ _ _ _ _
  have up : ∀ b o, h.get? b = some o → ((h.push (W.kdv_tup [])).push (excO C h.objs.size)).get? b = some o := fun b o e => Heap.get?_push_of_some _ (Heap.get?_push_of_some _ e)
  have at1 : ((h.push (W.kdv_tup [])).push (excO C h.objs.size)).get? (h.objs.size + 1) = some (excO C h.objs.size) := by heap_get
  have hC1 := up _ _ hC
  have own : (Value.ref C :: bm).contains (.ref C) = true := by simp
  have L1 := hi.keeps up
  have L2 := (hs (.ref (h.objs.size + 1))).keeps up
  unfold isInstance
  repeat (first | with_reducible refine wpAny_loadPart_at at1 ?_ | (with_reducible refine wpAny_isSubtype_exc hC1 ?_; rw [own]) | wp_step)
  show wpAny _ _ (typeLookup (.ref C) _) _ _ _
  refine L1.at ?_
  refine wpAny_holding (wpAny_bind (L2.at ?_))
  refine wpAny_bind (wpAny_call (codeAny_mono hq ?_))
  rintro (e | (_ | _ | _ | u)) s' z
  · exact z
  · exact z.elim
  · exact z.elim
  · exact z.elim
  · obtain ⟨rfl, z⟩ := z
    first
      | exact wpAny_pure (wpAny_pure z)
      | (wp_walk; exact z)
theorem kw_call (hb : refsVE bm = true) {v : Value} {y : Str} {fI : Addr}
    (hC : h.get? C = some (veC nm q C N bs bm hdct sn sub ab col dd k0 k1 k2 k3 k5))
    (hi : W.Looks (model prog w) h (typeLookup (.ref C) "__init__") (some (.ref fI))) (hs : ∀ self, W.Looks (model prog w) h (bindSpecial (.ref fI) self) (.ref fI, [self]))
    (hq : codeAny (model prog w) (A.under (.builtin "type.__call__" ⟨[.ref C], [(y, v)]⟩)) (.call (.ref fI) ⟨[.ref (h.objs.size + 1)], [(y, v)]⟩) (W.InitBack (h.objs.size + 1) R)
      ⟨(h.push (W.kdv_tup [])).push (excO C h.objs.size), g, d, t, os⟩) :
    codeAny (model prog w) A (.call (.ref C) ⟨[], [(y, v)]⟩) R ⟨h, g, d, t, os⟩ := by
  have z1 := tc_lookup
  have z2 := tc_bind (.ref C)
  have hTy : (⟨h, g, d, t, os⟩ : Shared).TypeIs (.ref C) "type" := ⟨_, hC, rfl⟩
  apply codeAny_of_tree
  show wpAny _ _ (callAny (.ref C) _) _ _ _
  repeat (any_goals (first | assumption | with_reducible refine wpAny_loadPart_at hC ?_ | wp_step))
  refine ⟨rfl, ?_⟩
  apply codeAny_call_builtin_at (Code.quiet_builtin _ (by decide +kernel)) entry_typeCall
  apply kw_chkT hC
  apply kw_typeCall hb hC hi hs
  refine codeAny_mono hq ?_
  rintro (e | (_ | _ | _ | u)) s' z <;> exact z
end
end G1

set_option maxHeartbeats 4000000
/-! Own exceptions as values over the layer: made, looked at, asked by isinstance. -/
namespace G1
open PySem PySem.Spec PyProof.Rows L2
/-- the heap behind C(v): the exception at a, its dict at d -/
def errH (H : Hp) (a d C : Addr) (v : V) : Hp := upd (upd (upd H a (exo a C none)) d (exd d [("value", v)])) a (exo a C (some d))
/-- an exception of the class at C that holds v -/
def ErrAt (H : Hp) (a C : Addr) (v : V) : Prop := ∃ d, H a = some (exo a C (some d)) ∧ H d = some (exd d [("value", v)])
theorem errH_at {H : Hp} {a d C : Addr} {v : V} (n : d ≠ a) : ErrAt (errH H a d C v) a C v := ⟨d, upd_same, by unfold errH; rw [upd_ne n, upd_same]⟩
theorem errH_same {H : Hp} {a d C : Addr} {v : V} (ha : H a = none) (hd : H d = none) : Same H (errH H a d C v) := fun b o e => by
  unfold errH
  rw [upd_ne (ne_of_none e ha), upd_ne (ne_of_none e hd), upd_ne (ne_of_none e ha)]
  exact e
theorem ErrAt.same {H H' : Hp} {a C : Addr} {v : V} (h : ErrAt H a C v) (s : Same H H') : ErrAt H' a C v := by
  obtain ⟨d, h1, h2⟩ := h
  exact ⟨d, s _ _ h1, s _ _ h2⟩
def spE (C : Addr) : Sp := fun vs H Q _ => ∃ (a : Addr) (v : V), vs = [.ref a, v] ∧ H a = some (exo a C none) ∧
  ∀ d, H d = none → d ≠ a → Q .non (upd (upd H d (exd d [("value", v)])) a (exo a C (some d)))
/-- what the written part says of such a class and its __init__ -/
structure EC (K : PySem.W.Frag) (C fI : Addr) : Prop where
  t : OexC K C
  x : ExcC K C
  nv : PySem.W.findIn K (.ref C) "value" = some none
  iC : PySem.W.findIn K (.ref C) "__init__" = some (some (.ref fI))
  tI : PySem.W.typeIn K (.ref fI) = some (.type "function")
section
variable {X : Cx} {pins : List (Addr × Obj)} {σ : L2.St} {H : Hp} {s : Shared} {Q : VK} {C fI : Addr} {k : Nat} {fd : FuncData} {ps : List Str} {sp : Sp} {dvs : List V} {ds : List Value} {x : Str} {p pos : Pos}
theorem new_exo (I : Inv X pins σ H s) (us : List Value) : H (s.heap.objs.size + 1) = none ∧
    Inv X pins σ (upd H (s.heap.objs.size + 1) (exo (s.heap.objs.size + 1) C none)) { s with heap := (s.heap.push (PySem.W.kdv_tup us)).push (PySem.HandSPX.excO C s.heap.objs.size) } := by
  obtain ⟨hp, g, dr, tk, os⟩ := s
  have hget : ((hp.push (PySem.W.kdv_tup us)).push (PySem.HandSPX.excO C hp.objs.size)).get? (hp.objs.size + 1) = some (PySem.HandSPX.excO C hp.objs.size) := by heap_get
  refine ⟨I.hok.fresh (Nat.le_succ _), ?_⟩
  exact I.laid (t' := tk) (a := hp.objs.size + 1) (o := exo (hp.objs.size + 1) C none) (h' := (hp.push (PySem.W.kdv_tup us)).push (PySem.HandSPX.excO C hp.objs.size))
    (fun b o e => Heap.get?_push_of_some _ (Heap.get?_push_of_some _ e)) (Nat.le_succ _) (exo_ok hget)
theorem run_mkE {us : List Value} {vs : List V} (T : OexC X.K C) (iC : PySem.W.findIn X.K (.ref C) "__init__" = some (some (.ref fI))) (tI : PySem.W.typeIn X.K (.ref fI) = some (.type "function"))
    (F1 : FnOk X.prog X.w X.K X.mg X.base CX0 k fI fd ps sp) (hr : Room (k + 1) X.A) (hb : Binds X.K fd ps ds) (hd : Vals dvs ds) (I : Inv X pins σ H s) (r : Vals vs us) (hz : vs.length ≤ 1000)
    (h : ∀ a, H a = none → sp (.ref a :: (vs ++ dvs)) (upd H a (exo a C none)) (fun v H2 => v = .non ∧ Q (.ref a) H2) E0) :
    wpAny (model X.prog X.w) X.A (call (.ref C) us) (EP X pins σ Q) X.xe s := by
  obtain ⟨nm, q, N, bs, bm, sn, sub, ab, col, dd, k0, k1, k2, k3, k5, hC, hbm⟩ := T.cls
  obtain ⟨hn, I2⟩ := new_exo (C := C) I us
  have hq := h _ hn
  have r2 : Vals (V.ref (s.heap.objs.size + 1) :: (vs ++ dvs)) (Value.ref (s.heap.objs.size + 1) :: (us ++ ds)) := .cons rfl (r.append hd)
  have hl : (Value.ref (s.heap.objs.size + 1) :: us ++ ds).length = ps.length := r2.length.symm.trans (F1.len _ _ _ _ hq)
  have hus : us.length ≤ sizeLine := by
    rw [← Paired.length r, sizeLine_eq]
    omega
  have KX := I.kIn
  obtain ⟨hp, g, dr, tk, os⟩ := s
  apply wpAny_call
  refine PySem.HandSPX.call_own F.excBase_ValueError (fun Y => PySem.HandSPX.refsVE_contains Y bm hbm) (KX _ _ hC) (PySem.W.looks_findIn KX iC) (fun self => PySem.W.bind_fn KX self tI) hus ?_
  refine codeAny_mono (F1.run _ X.stack _ _ ⟨Value.ref (hp.objs.size + 1) :: us, []⟩ (Value.ref (hp.objs.size + 1) :: (us ++ ds)) _ _ E0 (hr.make C us []) (I2.env0.make C us []) (hb _ (Value.ref (hp.objs.size + 1) :: us) I2.kIn hl) r2 hq) ?_
  rintro (er | (_ | _ | _ | u)) s' hq'
  · exact False.elim hq'
  · exact hq'.elim
  · exact hq'.elim
  · exact hq'.elim
  · obtain ⟨v, H', I3, rv, ev, q3⟩ := I2.after hq'
    subst ev
    exact ⟨rv, ⟨V.ref (hp.objs.size + 1), H', I3, rfl, q3⟩⟩
def tMkE (C : Addr) (sp : Sp) (dvs : List V) (t : TA) : TE := fun σ H Q => t σ H fun vs H1 => vs.length ≤ 1000 ∧ ∀ a, H1 a = none → sp (.ref a :: (vs ++ dvs)) (upd H1 a (exo a C none)) (fun v H2 => v = .non ∧ Q (.ref a) H2) E0
theorem pe_mkE {e : Expr} {es : List Expr} {t : TA} (T : EC X.K C fI) (F1 : FnOk X.prog X.w X.K X.mg X.base CX0 k fI fd ps sp) (hr : Room (k + 1) X.A) (hb : Binds X.K fd ps ds) (hd : Vals dvs ds) (hg : Gl X x) (hm : X.mg x = some (.ref C)) (ha : PA X (e :: es) t)
    (hdb : (x == ("__debug__" : Str)) = false := by decide) (he : starEach (e :: es) X.env = (false, eval e X.env) :: starEach es X.env := by rfl) (hpl : (backTo pos (starEach es X.env)).any (·.1) = false := by rfl) :
    PE X (.Call (.Name x p) (e :: es) [] pos) (tMkE C sp dvs t) := by
  constructor
  intro pins s σ H Q I h
  apply wpAny_Call_Name_kw (ld_glob I hg hm ?_ hdb)
  refine PySem.W.callWith_K (h₀ := X.base) I.ok.mod.kin T.t.kC (thn (ha.run pos pins s σ H _ I h) fun us s1 z => ?_) he hpl
  obtain ⟨vs, H1, I1, r1, hz, q1⟩ := z
  exact ⟨I1.kIn, run_mkE T.t T.iC T.tI F1 hr hb hd I1 r1 hz q1⟩
theorem pe_mkE0 (T : EC X.K C fI) (F1 : FnOk X.prog X.w X.K X.mg X.base CX0 k fI fd ps sp) (hr : Room (k + 1) X.A) (hb : Binds X.K fd ps ds) (hd : Vals dvs ds) (hg : Gl X x) (hm : X.mg x = some (.ref C))
    (hdb : (x == ("__debug__" : Str)) = false := by decide) : PE X (.Call (.Name x p) [] [] pos) (tMkE C sp dvs tNil) := by
  constructor
  intro pins s σ H Q I h
  apply wpAny_Call_Name_kw (ld_glob I hg hm ?_ hdb)
  obtain ⟨hz, q1⟩ := h
  exact PySem.W.callWith_K0 I.kIn T.t.kC (run_mkE (us := []) (vs := []) T.t T.iC T.tI F1 hr hb hd I .nil hz q1)
/-- C(k = v) -/
def tMkEK (C : Addr) (sp : Sp) (gV : List V → List V → List V) (t : TA) : TE := fun σ H Q => t σ H fun zs H1 => zs.length = 1 ∧ ∀ a, H1 a = none → sp (gV [.ref a] zs) (upd H1 a (exo a C none)) (fun v H2 => v = .non ∧ Q (.ref a) H2) E0
theorem pe_mkEK {kws : List Keyword} {y : Str} {tk : TA} {gw : List Value → List Value → List Value} {gV : List V → List V → List V} (T : EC X.K C fI) (F1 : FnOk X.prog X.w X.K X.mg X.base CX0 k fI fd ps sp) (hr : Room (k + 1) X.A)
    (hb : KBn X.K fd ps 1 [y] gw gV) (hg : Gl X x) (hm : X.mg x = some (.ref C)) (hkw : PK X kws tk)
    (hall : (backToKw pos (keywordEach kws X.env)).all (·.1.isSome) = true := by rfl) (hks : (backToKw pos (keywordEach kws X.env)).filterMap (·.1) = [y] := by rfl) (hdb : (x == ("__debug__" : Str)) = false := by decide)
    (hpl : ((backTo pos (starEach [] X.env)).any (·.1) || (backToKw pos (keywordEach kws X.env)).any (·.1.isNone)) = false := by rfl) :
    PE X (.Call (.Name x p) [] kws pos) (tMkEK C sp gV tk) := by
  constructor
  intro pins s σ H Q I h
  apply wpAny_Call_Name_kw (ld_glob I hg hm ?_ hdb)
  refine PySem.W.callWith_KW0 (h₀ := X.base) I.ok.mod.kin T.t.kC hall (thn (hkw.run pos pins s σ H _ I h) fun ws s1 z => ?_) hpl
  obtain ⟨zs, H1, I1, rz, l1, q⟩ := z
  refine ⟨I1.kIn, ?_⟩
  rw [hks]
  obtain ⟨z, rfl⟩ : ∃ z, zs = [z] := by
    match zs, l1 with
    | [z], _ => exact ⟨z, rfl⟩
  cases rz with
  | @cons _ u _ _ ru rn =>
    cases rn
    obtain ⟨nm, q0, N, bs, bm, sn, sub, ab, col, dd, k0, k1, k2, k3, k5, hC, hbm⟩ := T.t.cls
    obtain ⟨hn, I2⟩ := new_exo (C := C) I1 []
    have hq := q _ hn
    have r2 : Vals (gV [V.ref (s1.heap.objs.size + 1)] [z]) (gw [Value.ref (s1.heap.objs.size + 1)] [u]) := hb.rel (.cons rfl .nil) (.cons ru .nil)
    have KX := I1.kIn
    obtain ⟨hp, g, dr, tk, os⟩ := s1
    apply wpAny_call
    show codeAny (model X.prog X.w) X.A (.call (.ref C) ⟨[], [(y, u)]⟩) _ _
    refine kw_call hbm (KX _ _ hC) (PySem.W.looks_findIn KX T.iC) (fun self => PySem.W.bind_fn KX self T.tI) ?_
    refine codeAny_mono (F1.run _ X.stack _ _ ⟨[Value.ref (hp.objs.size + 1)], [(y, u)]⟩ (gw [Value.ref (hp.objs.size + 1)] [u]) _ _ E0 (hr.make C [] [(y, u)]) (I2.env0.make C [] [(y, u)]) (hb.to _ [Value.ref (hp.objs.size + 1)] [u] I2.kIn rfl rfl) r2 hq) ?_
    rintro (er | (_ | _ | _ | uu)) s' hq'
    · exact False.elim hq'
    · exact hq'.elim
    · exact hq'.elim
    · exact hq'.elim
    · obtain ⟨v, H', I3, rv, ev, q3⟩ := I2.after hq'
      subst ev
      exact ⟨rv, ⟨V.ref (hp.objs.size + 1), H', I3, rfl, q3⟩⟩
end
end G1

set_option maxHeartbeats 4000000
/-! isinstance, the field, of such an exception; repr of data; powers. -/
namespace G1
open PySem PySem.Spec PyProof.Rows L2
/-! ### isinstance -/
theorem kin_cls {prog : Program} {w : World} {A : Around} {E : Value → Shared → Prop} {s : Shared} {K : PySem.W.Frag} {x D : Addr} {ox : Obj} {od : Option Obj} {Q : Option Value → Shared → Prop}
    (C : ExcC K D) (hf : PySem.W.findObj K D od "__class__" = some (.bind (.builtin "getset_descriptor.__get__") (.builtin "object.__class__")))
    (X : K.In s.heap) (I : PySem.W.InstAt s.heap x ox D od) (h : Q (some (.ref D)) { s with toks := s.toks + 1 }) : wpAny (model prog w) A (getAttr? (.ref x) "__class__") Q E s := by
  obtain ⟨hp, g, d, t, os⟩ := s
  have k0 := I.type (M := model prog w)
  have k1 := PySem.W.looks_findIn (M := model prog w) X C.hg
  have k2 := PySem.W.looks_findIn (M := model prog w) X C.hk
  have k3 := PySem.W.looks_find (M := model prog w) X I hf
  have ks : PySem.W.Looks (model prog w) hp (isInstance (.ref x) (.type "BaseException")) true := k0.andThen (PySem.W.looks_subIn X C.hs)
  have b2 : (Value.builtin "BaseException.__getattribute__" == Value.builtin "object.__getattribute__") = false := by decide +kernel
  have b1 : (onTheHeap (Value.ref D) && Value.builtin "BaseException.__getattribute__" == Value.builtin "object.__getattribute__") = false := by
    rw [b2]
    rfl
  have b0 : (false && onTheHeap (Value.builtin "BaseException.__getattribute__")) = false := rfl
  unfold getAttr? getAttrBy? getAttrBy
  apply wpAny_bind
  apply wpAny_mkText
  apply wpAny_bind
  apply wpAny_attempt
  apply wpAny_holding
  refine wpAny_bind (k0.at ?_)
  refine wpAny_bind (k1.at ?_)
  show wpAny _ _ (if (onTheHeap (Value.ref D) && Value.builtin "BaseException.__getattribute__" == Value.builtin "object.__getattribute__") = true then _ else _) _ _ _
  rw [b1, if_neg Bool.false_ne_true]
  unfold getAttrByItsOwn hookBefore
  apply wpAny_bind
  rw [if_pos (show onTheHeap (Value.ref D) = true from rfl)]
  refine k2.at ?_
  apply wpAny_bind
  apply wpAny_attempt
  apply wpAny_holding
  unfold callGetattribute
  rw [b0, if_neg Bool.false_ne_true]
  unfold boundAndCalled
  rw [PySem.F.excAttr_ValueError.ga.bind (.ref x)]
  apply wpAny_bind
  apply wpAny_pure
  show wpAny _ _ (call (.builtin "BaseException.__getattribute__") [.ref x, .str "__class__" t]) _ _ _
  apply wpAny_call
  apply codeAny_call_builtin PySem.F.excAttr_ValueError.ga.plain PySem.F.entry_bexc_ga
  refine @PySem.W.check_slot (model prog w) _ _ ⟨hp, g, d, t + 1, os⟩ "BaseException.__getattribute__" "BaseException" "__getattribute__" (.ref x) [.str "__class__" t] [] _ (by decide +kernel) (by decide +kernel) ks (PySem.F.args_bexc_ga (.ref x) (.str "__class__" t)) ?_
  unfold Builtin.«object.__getattribute__»
  refine wpAny_bind (wpAny_of_eq (a := ((Value.ref x : Value), [Value.str "__class__" t])) (by first | rfl | (simp only [slotArgs]; rfl)) ?_)
  apply wpAny_bind
  apply wpAny_pure
  refine wpAny_bind (k0.at ?_)
  refine wpAny_bind (k3.at ?_)
  show wpAny _ _ (holding [Value.builtin "object.__class__"] (call (.builtin "getset_descriptor.__get__") [.builtin "object.__class__", .ref x, .ref D]) >>= ret) _ _ _
  apply wpAny_bind
  apply wpAny_holding
  apply wpAny_call
  refine PySem.W.class_get (s := ⟨hp, g, d, t + 1, os⟩) (ox := ox) (od := od) X I C.hm ?_
  apply wpAny_pure
  show wpAny _ _ (handedOut (.ref D)) _ _ _
  rw [PySem.W.handedOut_of (v := .ref D) rfl]
  first
    | exact wpAny_pure (wpAny_pure h)
    | exact wpAny_pure h
    | exact wpAny_pure (wpAny_bind (wpAny_pure (wpAny_pure h)))
theorem find_cls {K : PySem.W.Frag} {D : Addr} (C : ExcC K D) (od : Option Obj) : PySem.W.findObj K D od "__class__" = some (.bind (.builtin "getset_descriptor.__get__") (.builtin "object.__class__")) := by
  obtain ⟨cd, hc, _⟩ := PySem.W.any_some C.hd
  unfold PySem.W.findObj
  rw [hc, Option.bind_some, C.ha, Option.bind_some]
  simp [C.hn, C.ht]
theorem kit_exc {K : PySem.W.Frag} {x D : Addr} {ox : Obj} {od : Option Obj} (C : ExcC K D) : PySem.W.KitX K (.ref x) (.ref D) (fun h => PySem.W.InstAt h x ox D od) := by
  have cls : ∃ c' d' cd' sl', K.lookup D = some ⟨c', d', .cls cd', sl'⟩ := by
    obtain ⟨cd, hc, _⟩ := PySem.W.any_some C.hd
    unfold PySem.W.clsIn at hc
    split at hc
    · rename_i c' d' cd' sl' ho
      exact ⟨c', d', cd', sl', ho⟩
    · cases hc
  obtain ⟨c', d', cd', sl', ho⟩ := cls
  constructor
  · exact fun _ _ _ I => I.type
  · intro M h X _ A' Q' E' s' k q
    unfold isType loadHead
    exact wpAny_bind (wpAny_loadPart (k _ _ (X _ _ ho)) (wpAny_pure q))
  · intro h tp dd its n sl X htp
    cases e : (Value.ref D == Value.ref tp) with
    | false => rfl
    | true =>
      have e2 : D = tp := Value.ref.inj (beq_iff_eq.mp e)
      subst e2
      cases (X _ _ ho).symm.trans htp
  · exact fun X I k => kin_cls C (find_cls C od) X I k
/-- at a stands an exception of the class at C, with or without a dict -/
def AnyErr (H : Hp) (a C : Addr) : Prop := H a = some (exo a C none) ∨ ∃ d fs, H a = some (exo a C (some d)) ∧ H d = some (exd d fs)
theorem ErrAt.any {H : Hp} {a C : Addr} {v : V} (h : ErrAt H a C v) : AnyErr H a C := .inr (by obtain ⟨d, h1, h2⟩ := h; exact ⟨d, _, h1, h2⟩)
section
variable {X : Cx} {pins : List (Addr × Obj)} {σ : L2.St} {H : Hp} {s : Shared}
theorem inst_err {a C : Addr} (I : Inv X pins σ H s) (h : AnyErr H a C) : ∃ ox od, PySem.W.InstAt s.heap a ox C od ∧ (∀ d fs, H a = some (exo a C (some d)) → H d = some (exd d fs) → ∃ o mA, od = some o ∧ s.heap.Ns1 d mA ∧ (∀ f, RelO (fs.lookup f) (mA f)) ∧ s.heap.get? d = some o) := by
  rcases h with h | ⟨d, fs, h1, h2⟩
  · obtain ⟨t1, g⟩ := exo_at I.hok h
    refine ⟨_, none, ⟨g, rfl, rfl, trivial⟩, fun d fs e _ => ?_⟩
    have z : exo a C none = exo a C (some d) := Option.some.inj (h.symm.trans e)
    have z1 : (HO.ext _) = HO.ext _ := z
    have z2 := congrFun (HO.ext.inj z1) s.heap
    have z3 : (∃ t1 : Addr, s.heap.get? a = some ({ cls := .ref C, dict := some d, data := .fields #[.ref t1, .none, .none, .none, .bool false, .none] } : Obj)) := z2.mp ⟨t1, g⟩
    obtain ⟨t2, g2⟩ := z3
    rw [g] at g2
    cases g2
  · obtain ⟨t1, g⟩ := exo_at I.hok h1
    obtain ⟨mA, hns, rel⟩ := exd_at I.hok h2
    obtain ⟨od, ho, hl⟩ := lookIn_ns hns
    refine ⟨_, some od, ⟨g, rfl, rfl, ho⟩, fun d' fs' e e2 => ?_⟩
    have z : exo a C (some d) = exo a C (some d') := Option.some.inj (h1.symm.trans e)
    have z1 : (HO.ext _) = HO.ext _ := z
    have z2 := congrFun (HO.ext.inj z1) s.heap
    have z3 : (∃ t1 : Addr, s.heap.get? a = some ({ cls := .ref C, dict := some d', data := .fields #[.ref t1, .none, .none, .none, .bool false, .none] } : Obj)) := z2.mp ⟨t1, g⟩
    obtain ⟨t2, g2⟩ := z3
    rw [g] at g2
    cases g2
    obtain ⟨mA', hns', rel'⟩ := exd_at I.hok e2
    exact ⟨od, mA', rfl, hns', rel', ho⟩
/-- isinstance(e, c), e such an exception -/
def rIsX (K : PySem.W.Frag) : List V → Hp → VK → Prop := fun xs H Q => ∃ (a C : Addr) (c : V) (u : Value) (b : Bool), xs = [.ref a, c] ∧ AnyErr H a C ∧ ExcC K C ∧ ClsV c u ∧ PySem.W.kitOne K (.ref C) u = some b ∧ Q (.bl b) H
theorem call_isX : CallR X (.builtin "isinstance") (rIsX X.K) := by
  intro pins s σ H xs us Q I r h
  obtain ⟨a, C, c, u, b, rfl, he, hC, hc, hk, q⟩ := h
  obtain ⟨u1, u2, rfl, r1, r2⟩ := vals2 r
  cases (show u1 = Value.ref a from r1)
  have e2 := hc.eq r2
  subst e2
  obtain ⟨ox, od, J, _⟩ := inst_err I he
  exact PySem.W.kia_one (kit_exc hC) I.kIn J hk (fun z => nomatch z) fun tk => ⟨.bl b, H, I.tok tk, rfl, q⟩
/-- both: data and such exceptions -/
theorem call_is2 : CallR X (.builtin "isinstance") (fun xs H Q => rIsX X.K xs H Q ∨ rIsi X.K xs H Q) := by
  intro pins s σ H xs us Q I r h
  rcases h with h | h
  · exact call_isX pins s σ H xs us Q I r h
  · exact call_isi pins s σ H xs us Q I r h
/-! ### e.value -/
def tVal (K : PySem.W.Frag) (te : TE) : TE := fun σ H Q => te σ H fun x H1 => ∃ (a C fI : Addr) (v : V), x = .ref a ∧ ErrAt H1 a C v ∧ EC K C fI ∧ Q v H1
theorem pe_val {e : Expr} {te : TE} {pos : Pos} (he : PE X e te) (hb : attributeBase e "value" X.env (eval e X.env) = eval e X.env := by rfl) : PE X (.Attribute e "value" pos) (tVal X.K te) := by
  constructor
  intro pins s σ H Q I h
  refine attr_of hb (thn (he.run pins s σ H _ I h) fun u s1 hh => ?_)
  obtain ⟨x, H1, I1, rx, a, C, fI, v, ex, ⟨d, ha, hd⟩, T, q⟩ := hh
  subst ex
  cases (show u = Value.ref a from rx)
  obtain ⟨ox, od, J, z⟩ := inst_err I1 (.inr ⟨d, _, ha, hd⟩)
  obtain ⟨o, mA, rfl, hns, rel, ho⟩ := z d _ ha hd
  have l : List.lookup ("value" : Str) [(("value" : Str), v)] = some v := by simp [List.lookup]
  obtain ⟨u2, hu, ru⟩ := RelO.some_of (v := v) (o := mA "value") (by rw [← l]; exact rel "value")
  obtain ⟨od2, ho2, hl⟩ := lookIn_ns hns
  have eo : o = od2 := by
    rw [ho] at ho2
    exact Option.some.inj ho2
  subst eo
  exact PySem.HandSPX.exc_get I1.kIn J T.x.hg T.x.hk T.x.hs (PySem.W.findObj_own T.x.hd T.nv rfl (by rw [hl, hu])) (handed_of ru) ⟨v, H1, I1.tok _, ru, q⟩
end
end G1

set_option maxHeartbeats 4000000
namespace G1
open PySem PySem.Spec PyProof.Rows L2
/-! ### powers of any base -/
def CPowW (i j : Int) : Prop := 0 ≤ j ∧ (Builtin.Int.intBits i : Int) * j ≤ 2 ^ 27
/-! ### repr of data: lists, tuples, texts, small numbers, the empty dict -/
/-- what stands at a value, as data; beside Dp the empty dict -/
inductive Rp (K : PySem.W.Frag) (H : Hp) : V → PyData → Prop
  | dp {v : V} {d : PyData} : Dp K H v d → Rp K H v d
  | dct {a : Addr} : H a = some (.dK []) → Rp K H (.ref a) (.dict [])
section
variable {X : Cx}
theorem op_powW : OpR X (binaryOp .Pow) (rI CPowW fun i j => .int (i ^ j.toNat)) := opI fun _ _ _ _ _ _ _ hc q => pow_int hc.1 hc.2 q
theorem rp_reads {pins : List (Addr × Obj)} {σ : L2.St} {H : Hp} {s : Shared} (I : Inv X pins σ H s) {v : V} {u : Value} {d : PyData} (h : Rp X.K H v d) (r : RelV v u) (hs : d.hasDict = false ∨ d = .dict []) :
    ∃ as, Reads s.heap u d as ∧ (d.hasDict = true → sysModules ∉ as) := by
  cases h with
  | dp h =>
    obtain ⟨as, q⟩ := Dp.reads I d v u h r
    refine ⟨as, q, fun z => ?_⟩
    rcases hs with hs | hs
    · rw [hs] at z
      cases z
    · subst hs
      cases h
  | @dct a e =>
    cases (show u = Value.ref a from r)
    obtain ⟨_, hsys, vs, kv, o, es, ep, h1, h2, h3, _, h5, _⟩ := (show ObjOk X.prog X.w H s.heap a (.dK []) from I.hok a _ e)
    have e0 : vs = [] := by
      cases kv
      rfl
    subst e0
    have e1 : es.toList = [] := by
      cases h5' : es.toList with
      | nil => rfl
      | cons x l =>
        rw [h5'] at h5
        cases h5
    refine ⟨[a], ?_, fun _ z => ?_⟩
    · have R := Reads.dict (h := s.heap) (a := a) (kvs := []) (as := []) (bs := []) h1 h2.1 h3 (by rw [e1]; exact .nil) (by rw [e1]; exact .nil)
      exact R
    · have ea : sysModules = a := List.mem_singleton.mp z
      rw [← ea] at hsys
      simp at hsys
def rRepr (K : PySem.W.Frag) : List V → Hp → VK → Prop := fun xs H Q => ∃ (v : V) (d : PyData), xs = [v] ∧ Rp K H v d ∧ (d.hasDict = false ∨ d = .dict []) ∧ d.showable = true ∧ d.depth ≤ 60 ∧ d.shown.length ≤ sizeLine ∧ Q (.str d.shown) H
theorem call_repr (hgd : Gd X.A) (hu : X.A.units + 64 < cLine) : CallR X (.builtin "repr") (rRepr X.K) := by
  intro pins s σ H xs us Q I r h
  obtain ⟨v, d, rfl, hr, hs, hsh, hdp, hl, q⟩ := h
  obtain ⟨u, rfl, ru⟩ := vals1 r
  have fin : ∀ (h' : Heap) (t : Tok) (tk : Nat), (∀ b o, s.heap.get? b = some o → h'.get? b = some o) → EP X pins σ Q (.str d.shown t) { s with heap := h', toks := tk } :=
    fun h' t tk k => ⟨.str d.shown, H, I.kept k, ⟨t, rfl⟩, q⟩
  have fin0 : ∀ (t : Tok), EP X pins σ Q (.str d.shown t) { s with toks := s.toks + 1 } := fun t => fin s.heap t _ fun _ _ e => e
  obtain ⟨as, hR, hsm⟩ := rp_reads I hr ru hs
  cases hR with
  | none => exact PySem.P.repr_of_none (fin0 _)
  | bool b => exact PySem.P.repr_of_bool (fin0 _)
  | int i t => exact PySem.P.repr_of_int (by simpa [PyData.showable] using hsh) (fin0 _)
  | str x t => exact PySem.P.repr_of_str (fin0 _) hl
  | list h1 h2 h3 h4 => exact repr_of_reads' (.list h1 h2 h3 h4) hsh hsm hgd (by omega) (fun _ _ e => e) (fun h' u tk k => fin h' u tk k) hl
  | tuple h1 h2 h3 h4 => exact repr_of_reads' (.tuple h1 h2 h3 h4) hsh hsm hgd (by omega) (fun _ _ e => e) (fun h' u tk k => fin h' u tk k) hl
  | dict h1 h2 h3 h4 h5 => exact repr_of_reads' (.dict h1 h2 h3 h4 h5) hsh hsm hgd (by omega) (fun _ _ e => e) (fun h' u tk k => fin h' u tk k) hl
end
end G1

set_option maxHeartbeats 4000000
namespace G1
open PySem PySem.Spec PyProof.Rows L2
section
variable {X : Cx}
/-- C(), C an own exception class without an own __init__ -/
def tMkN (C : Addr) : TE := fun _ H Q => ∀ a, H a = none → Q (.ref a) (upd H a (exo a C none))
theorem pe_mkN {C : Addr} {x : Str} {p pos : Pos} (q : PySem.W.excIn X.K C He.veBase "ValueError.__new__" = true) (kC : PySem.W.keepIn X.K (.ref C) = true) (hg : Gl X x) (gC : X.mg x = some (.ref C))
    (hdb : (x == ("__debug__" : Str)) = false := by decide) : PE X (.Call (.Name x p) [] [] pos) (tMkN C) := by
  constructor
  intro pins s σ H Q I h
  apply wpAny_Call_Name_kw (ld_glob I hg gC ?_ hdb)
  refine PySem.W.callWith_K0 I.kIn kC ?_
  obtain ⟨bm, N, nm, qn, bs, hdct, sn, sub, ab, col, dd, k0, k1, k2, k3, k5, mN, hC, hN, hni, T⟩ := exc_obj I.kIn q
  refine wpAny_call_exc_subT F.excBase_ValueError T hC hN hni (fun h' a hm => ?_) (by show 0 ≤ sizeLine; exact Nat.zero_le _)
  have hn : H a = none := I.hok.gone hm.new
  obtain ⟨t, ht, _, _⟩ := hm.there
  exact ⟨.ref a, upd H a (exo a C none), I.laidN hm.keeps hm.new hn (exo_ok ht), rfl, h a hn⟩
end
end G1

set_option maxHeartbeats 4000000
/-! len(set(texts)) of a list of texts, however many. -/
namespace G1
open PySem PySem.Spec PyProof.Rows L2
def memS (xs : List Str) (i : Nat) : Str → Bool := fun k => (xs.take i).any (· == k)
def cntS (xs : List Str) : Nat → Nat
  | 0 => 0
  | i + 1 => if memS xs i (xs.getD i Str.empty) then cntS xs i else cntS xs i + 1
theorem cntS_le (xs : List Str) : ∀ i, cntS xs i ≤ i
  | 0 => Nat.le_refl 0
  | i + 1 => by
    have := cntS_le xs i
    unfold cntS
    split <;> omega
theorem memS_iff {xs : List Str} {i : Nat} {k : Str} : memS xs i k = true ↔ k ∈ xs.take i := by
  unfold memS
  rw [List.any_eq_true]
  constructor
  · rintro ⟨z, hz, e⟩
    rw [← eq_of_beq e]
    exact hz
  · exact fun h => ⟨k, h, beq_self_eq_true _⟩
theorem take_next {xs : List Str} {i : Nat} (h : i < xs.length) : xs.take (i + 1) = xs.take i ++ [xs.getD i Str.empty] := by
  rw [List.take_succ, List.getD_eq_getElem?_getD, List.getElem?_eq_getElem h]
  rfl
theorem cntS_full (xs : List Str) : ∀ i, i ≤ xs.length → (cntS xs i = i ↔ (xs.take i).Nodup)
  | 0, _ => by simp [cntS]
  | i + 1, h => by
    have ih := cntS_full xs i (by omega)
    have le := cntS_le xs i
    rw [take_next (by omega), List.nodup_append]
    unfold cntS
    by_cases m : memS xs i (xs.getD i Str.empty) = true
    · rw [if_pos m]
      refine ⟨fun e => by omega, fun ⟨_, _, d⟩ => absurd rfl (d _ (memS_iff.mp m) _ (List.mem_singleton.mpr rfl))⟩
    · rw [if_neg m]
      refine ⟨fun e => ⟨ih.mp (by omega), List.pairwise_singleton _ _, fun a ha b hb q => ?_⟩, fun ⟨d, _⟩ => by rw [ih.mpr d]⟩
      rw [List.mem_singleton.mp hb] at q
      exact m (memS_iff.mpr (q ▸ ha))
section
variable {prog : Program} {w : World} {A : Around} {R : Result → Shared → Prop} {I : Addr} {fp wr : List Addr} {G : Array GenState → Array GenState → Prop} {n : Nat} {P : Nat → Value → Prop} {St : Nat → Shared → Prop}
theorem set_same {h h' : Heap} {a : Addr} {M : Str → Bool} {n : Nat} (k : ∀ o, h.get? a = some o → h'.get? a = some o) (z : h.SetOf (PySem.strKind prog w) a M n) : h'.SetOf (PySem.strKind prog w) a M n := by
  obtain ⟨o, es, ep, tb, ho, z⟩ := z
  exact ⟨o, es, ep, tb, k o ho, z⟩
theorem strLoop (W : WalksS prog w A.in1 I fp wr G n P St) {a : Addr} (na : a ∉ fp) {xs : List Str} (len : xs.length = n) (hb : n < scanBound) (hv : ∀ i v, P i v → ∃ t, v = .str (xs.getD i Str.empty) t) (m : Nat) :
    ∀ (i : Nat) (s : Shared), i + m = n → St i s → s.heap.SetOf (PySem.strKind prog w) a (memS xs i) (cntS xs i) →
      (∀ s', Moved (a :: wr) G s s' → s'.heap.SetOf (PySem.strKind prog w) a (memS xs n) (cntS xs n) → R (.ok (.ret .none)) s') →
      codeAny (model prog w) A (.builtin "set.update.loop" ⟨[.ref a, .ref I], []⟩) R s := by
  have nw : a ∉ wr := fun z => na (W.sub _ z)
  have up : ∀ b ∈ wr, b ∈ a :: wr := fun _ z => List.mem_cons_of_mem _ z
  induction m with
  | zero =>
    intro i s e hst hS k
    obtain rfl : i = n := by omega
    refine codeAny_builtin PyProof.Rows.F.entry_set_update_loop ?_
    rw [Around.under_plainId PyProof.Rows.F.plain_set_update_loop _]
    exact wpAny_bind (W.done s _ _ hst fun s' hm => wpAny_pure (k s' (hm.mono up) (set_same (fun o => hm.heap a o nw) hS)))
  | succ m ih =>
    intro i s e hst hS k
    have lt : i < n := by omega
    refine codeAny_builtin PyProof.Rows.F.entry_set_update_loop ?_
    rw [Around.under_plainId PyProof.Rows.F.plain_set_update_loop _]
    refine wpAny_bind (W.item i s _ _ lt hst fun v s' hP hst' hm => ?_)
    obtain ⟨t, rfl⟩ := hv i v hP
    have hS1 := set_same (fun o => hm.heap a o nw) hS
    have le := cntS_le xs i
    show wpAny _ A.in1 (holding [Value.str (xs.getD i Str.empty) t] (setAdd a (.str (xs.getD i Str.empty) t)) >>= _) _ _ s'
    refine wpAny_bind (wpAny_holding (by
      unfold setAdd
      refine wpAny_holding (wpAny_bind ((PySem.strKind prog w).pyHash (k := xs.getD i Str.empty) (strKind_is _ _ _ _) ?_))
      refine wpAny_setAddHashed_of (knd := PySem.strKind prog w) (s := { s' with toks := s'.toks + 1 }) (strKind_is _ _ _ _) rfl hS1 (by omega) fun h' sb hS2 => ?_
      have hS3 : h'.SetOf (PySem.strKind prog w) a (memS xs (i + 1)) (cntS xs (i + 1)) := by
        refine SetOf_congr hS2 (fun z => ?_) rfl
        show ((xs.take i).any (· == z) || decide (z = xs.getD i Str.empty)) = (xs.take (i + 1)).any (· == z)
        rw [take_next (by omega), List.any_append]
        congr 1
        by_cases q : z = xs.getD i Str.empty
        · simp [q]
        · have q2 : (xs.getD i Str.empty == z) = false := beq_eq_false_iff_ne.mpr (Ne.symm q)
          simp only [List.any_cons, List.any_nil, q2, Bool.or_false, decide_eq_false q]
      refine wpAny_pure ⟨plainId_quiet PyProof.Rows.F.plain_set_update_loop _, ih (i + 1) _ (by omega) ?_ hS3 fun s2 hm2 hS4 => k s2 (Moved.trans W.gtrans ((hm.mono up).then_heap (Nat.le_succ _) fun b o hb q => ?_) hm2) hS4⟩
      · refine W.frame _ s' _ _ hst' (Nat.le_succ _) fun b hb o q => ?_
        exact (sb.2 b fun z => na (z ▸ hb)).trans q
      · exact (sb.2 b fun z => hb (z ▸ List.mem_cons_self)).trans q))
end
section
variable {prog : Program} {w : World} {A : Around} {E : Value → Shared → Prop} {s : Shared}
/-- what set(l) leaves behind -/
def SetLeft (prog : Program) (w : World) (s : Shared) (xs : List Str) (h' : Heap) : Prop :=
  h'.SetOf (PySem.strKind prog w) s.heap.objs.size (memS xs xs.length) (cntS xs xs.length) ∧ ∀ b o, b < s.heap.objs.size → s.heap.get? b = some o → h'.get? b = some o
abbrev emptySet (led : Bool) : Obj := { cls := .type "set", dict := none, data := .set #[] 0 (.fresh 0 0 led) }
theorem call_setS {l : Addr} {items : Array Value} {xs : List Str} {Q : Value → Shared → Prop} (hh : A.handled = none) (hl : s.heap.IsList l items) (hi : StrsAre items.toList xs) (hb : xs.length < scanBound)
    (k : ∀ (h' : Heap) (tk : Nat), SetLeft prog w s xs h' → Q (.ref s.heap.objs.size) { s with heap := h', toks := tk }) : wpAny (model prog w) A (call (.type "set") [.ref l]) Q E s := by
  have len : xs.length = items.size := by rw [← StrsAre.len_eq hi, Array.length_toList]
  obtain ⟨cT, tT, hmro⟩ := PySem.F.called_set.mro
  have y1 := PySem.F.called_set.made
  have y2 := PySem.F.called_set.sub
  have y3 := PySem.F.called_set.notType
  have y4 := PySem.F.called_set.canCreate
  have y5 := PySem.F.typeCall_set_1 (.ref l)
  refine wpAny_call (codeAny_of_tree (show wpAny _ _ (callAny (.type "set") _) _ _ _ from wpAny_pure ⟨Code.quiet_builtin _ (by decide +kernel), codeAny_builtin PySem.F.entry_type_call ?_⟩))
  rw [Around.under_plain (weight_type_call_type "set" [.ref l] []) rfl]
  repeat (any_goals (first | assumption | wp_step))
  refine codeAny_mono (code_set_new_1 (.ref l) (E := E) (Q₁ := fun obj s₁ => ∃ led : Bool, obj = .ref s.heap.objs.size ∧ s₁ = { s with heap := s.heap.push (emptySet led) }) fun led => ⟨led, rfl, rfl⟩) fun r s₁ hr => ?_
  match r, hr with
  | .error e, hr => exact hr
  | .ok (.ret obj), hr =>
    obtain ⟨led, rfl, rfl⟩ := hr
    have hS : (s.heap.push (emptySet led)).get? s.heap.objs.size = some (emptySet led) := Heap.get?_push_size _ rfl
    have hT : Shared.TypeIs { s with heap := s.heap.push (emptySet led) } (.ref s.heap.objs.size) "set" := ⟨_, hS, rfl⟩
    have i1 := PySem.F.called_set.init.lookup
    have i2 := PySem.F.called_set.init.bind (.ref s.heap.objs.size)
    repeat (any_goals (first | assumption | wp_step))
    refine codeAny_mono (codeAny_call_builtin (R := wants (fun r s₂ => r = .none ∧ ∃ h' tk, s₂ = { s with heap := h', toks := tk } ∧ SetLeft prog w s xs h') E) PySem.F.called_set.init.plain PySem.F.entry_set_init (check_set_init_1 hT ?_)) fun r₂ s₂ hr₂ => ?_
    · obtain ⟨⟨oc, od, dt, osl⟩, ho, hc, nl, hd⟩ := hl
      dsimp only at hc hd
      subst hc hd
      have lt : l < s.heap.objs.size := Heap.lt_size ho
      have ho1 : (s.heap.push (emptySet led)).get? l = some { cls := .type "list", dict := od, data := .seq items nl, slots := osl } := Heap.get?_push_of_some _ ho
      have z1 := PySem.F.sub_list_set
      have z2 := PySem.F.sub_list_frozenset
      have z3 : (Value.type "list" == Value.type "dict") = false := by decide
      have L1 : (s.heap.push (emptySet led)).IsList l items := ⟨_, ho1, rfl, nl, rfl⟩
      unfold Builtin.«set.__init__» noKeywords Builtin.Frozenset.updateFrom
      generalize hPI : pyIter = PI
      wp_walk
      subst hPI
      refine wpAny_pyIter_list L1 (wpAny_bind (wpAny_runValue ?_))
      have ne1 : l ≠ (s.heap.push (emptySet led)).objs.size := by
        rw [Heap.size_push]
        exact Nat.ne_of_lt (Nat.lt_succ_of_lt lt)
      have ne2 : s.heap.objs.size ∉ [(s.heap.push (emptySet led)).objs.size, l] := by
        rw [Heap.size_push]
        simp only [List.mem_cons, List.not_mem_nil, or_false, not_or]
        exact ⟨Nat.ne_of_lt (Nat.lt_succ_self _), Nat.ne_of_gt lt⟩
      refine strLoop ((Walks.list (by simp [hh]) _ l ne1 items).toS) ne2 len (by rw [← len]; exact hb) (fun i v e => SS.strs_at hi i v (by rw [Array.getElem?_toList]; exact e)) items.size 0 _ (by omega) ⟨⟨_, Heap.get?_push_size _ rfl, rfl, rfl⟩, L1.push _⟩ ?_ ?_
      · exact SetOf_congr ((setObjOf_fresh (knd := PySem.strKind prog w) led).setOf (Heap.get?_push_of_some _ hS) (by unfold scanBound; omega)) (fun _ => rfl) rfl
      · intro s' hm hS'
        obtain ⟨h', g', d', tk', os'⟩ := s'
        obtain rfl : g' = s.gens := hm.gens
        obtain rfl : d' = s.drawn := hm.drawn
        obtain rfl : os' = s.os := hm.os
        rw [← len] at hS'
        refine wpAny_pure (wpAny_pure ⟨rfl, h', tk', rfl, hS', fun b o lb e => hm.heap b o ?_ (Heap.get?_push_of_some _ (Heap.get?_push_of_some _ e))⟩)
        simp only [List.mem_cons, List.not_mem_nil, or_false, not_or]
        rw [Heap.size_push]
        exact ⟨Nat.ne_of_lt lb, Nat.ne_of_lt (Nat.lt_succ_of_lt lb)⟩
    · match r₂, hr₂ with
      | .error e, hr₂ => exact hr₂
      | .ok (.ret r), hr₂ =>
        obtain ⟨rfl, h', tk, rfl, left⟩ := hr₂
        repeat (any_goals (first | assumption | wp_step))
        exact k _ _ left
end
end G1

set_option maxHeartbeats 4000000
namespace G1
open PySem PySem.Spec PyProof.Rows L2
section
variable {X : Cx}
def tLenStrs (K : PySem.W.Frag) (ta : TE) : TE := fun σ H Q => ta σ H fun x H1 => ∃ l, ∃ xs : List Str, x = .ref l ∧ SqL K H1 l (xs.map V.str) ∧ xs.length ≤ 1000 ∧ Q (.int (cntS xs xs.length)) H1
theorem pe_lenStrs {a : Expr} {ta : TE} {p p2 q pos : Pos} (hc : X.calm = true) (g1 : Gl X "len") (m1 : X.mg "len" = none) (g2 : Gl X "set") (m2 : X.mg "set" = none) (ha : PE X a ta) (na : starEach [a] X.env = (false, eval a X.env) :: starEach [] X.env := by rfl) :
    PE X (.Call (.Name "len" p) [.Call (.Name "set" p2) [a] [] q] [] pos) (tLenStrs X.K ta) := by
  refine ⟨fun pins s σ H Q I h => Call_ (ld_blt I g1 m1 boot_len (callWith_builtin1 (args_cons (Call_ (ld_blt I g2 m2 boot_set ?_)) rfl) rfl rfl))⟩
  refine callWith_type1 (args_cons (thn (ha.run pins s σ H _ I h) fun v s1 ⟨x, H1, I1, r1, q1⟩ => args_nil ?_) na) na rfl
  obtain ⟨l, xs, rfl, hq, hb, q1⟩ := q1
  cases r1
  obtain ⟨its, r, pl, hz⟩ := I1.list hq
  have le := cntS_le xs xs.length
  refine call_setS (I1.ok.hd hc) pl.isList (xs := xs) (by simpa using strsAre_of r) (by unfold scanBound; omega) fun h' tk left => args_nil ?_
  obtain ⟨⟨o, es, ep, t, ho, hex, hd, _, _, _, hf, hn⟩, keep⟩ := left
  have I2 : Inv X pins σ H1 { s1 with heap := h', toks := tk } := I1.kept fun b o e => keep b o (Heap.lt_size e) e
  exact call_len_set ho hex hd hf (by rw [hn]; omega) ⟨.int (cntS xs xs.length), H1, I2.tok _, ⟨_, by rw [hn]⟩, q1⟩
end
end G1

set_option maxHeartbeats 4000000
/-! Equality of things of all kinds, deep, the very same objects too. -/
namespace PySem.SeqAt
open AutoSeq1 (wpAny_loadPart')
open MeetsSeq
theorem g_dict_no_str (b : Str) (u : Tok) (l : Addr) (es : Array DictEntry) (n : Nat) (dd : Option Addr) (sl : Array (Option Value)) :
    Meets (Builtin.«dict.__eq__» ⟨[.ref l, .str b u], []⟩) (fun _ R s => s.heap.get? l = some { cls := .type "dict", dict := dd, data := .dict es n, slots := sl } ∧ R (.ok (.ret .notImplemented)) s) :=
  .of_wp fun prog w A R s h => by
    obtain ⟨hp, g, d, tk, os⟩ := s
    obtain ⟨hl, h⟩ := h
    have f1 := F.sub_str_dict
    wp_walk using wpAny_loadPart' hl, wpAny_load hl
    exact ⟨_, rfl, h⟩
theorem g_str_no_dict (b : Str) (u : Tok) (l : Addr) (es : Array DictEntry) (n : Nat) (dd : Option Addr) (sl : Array (Option Value)) :
    Meets (Builtin.«str.__eq__» ⟨[.str b u, .ref l], []⟩) (fun _ R s => s.heap.get? l = some { cls := .type "dict", dict := dd, data := .dict es n, slots := sl } ∧ R (.ok (.ret .notImplemented)) s) :=
  .of_wp fun prog w A R s h => by
    obtain ⟨hp, g, d, tk, os⟩ := s
    obtain ⟨hl, h⟩ := h
    wp_walk using wpAny_loadPart' hl, wpAny_load hl
    exact ⟨_, rfl, h⟩
section
variable {A : Around} {s : Shared} {l : Addr} {es : Array DictEntry} {n : Nat} {dd : Option Addr} {sl : Array (Option Value)}
theorem g_str_dict (b : Str) (u : Tok) (ho : s.heap.get? l = some { cls := .type "dict", dict := dd, data := .dict es n, slots := sl }) (hu : A.units < cLine) : EqAt A s (.str b u) (.ref l) false := fun prog w E Q h => by
  unfold eqBool
  refine wpAny_holding (wpAny_ite_split (fun q => absurd (eq_of_beq q) nofun) fun _ => wpAny_bind ?_)
  exact rc_eq_decline_or (k := false) (typeIs_str s b u) ⟨_, ho, rfl⟩ (by decide) F.sub_dict_str F.slot_str_eq F.slot_dict_eq_refl
    (fun _ q => call_meets F.slot_str_eq (typeIs_str s b u) F.entry_str_eq (F.args_str_eq_2 _ _) (g_str_no_dict b u l es n dd sl) ⟨ho, q⟩)
    (fun _ q => call_meets F.slot_dict_eq_refl ⟨_, ho, rfl⟩ F.entry_dict_eq (F.args_dict_eq_2 _ _) (g_dict_no_str b u l es n dd sl) ⟨ho, q⟩)
    (fun _ q => wpAny_of_eq (rfl : isSame (.str b u) (.ref l) = pure false) q) (.inr hu) (wpAny_truthy_bool h)
end
end PySem.SeqAt

set_option maxHeartbeats 4000000
namespace G1
open PySem PySem.Spec PyProof.Rows L2
/-- whether two things are equal, at most n deep (of things that stand in lists: the very same thing is equal to itself) -/
inductive EqW (K : PySem.W.Frag) (H : Hp) : Nat → V → V → Bool → Prop
  | flat {n : Nat} {x y : V} : flatV x = true → flatV y = true → EqW K H n x y (eqV x y)
  | same {n : Nat} {a : Addr} : EqW K H n (.ref a) (.ref a) true
  | lists {n : Nat} {a b : Addr} {xs ys : List V} {f : Nat → Bool} : a ≠ b → SqL K H a xs → SqL K H b ys → xs.length = ys.length → (∀ i x y, xs[i]? = some x → ys[i]? = some y → EqW K H n x y (f i)) →
      EqW K H (n + 1) (.ref a) (.ref b) ((List.range xs.length).all f)
  | lens {n : Nat} {a b : Addr} {xs ys : List V} : a ≠ b → SqL K H a xs → SqL K H b ys → xs.length ≠ ys.length → EqW K H (n + 1) (.ref a) (.ref b) false
  | strList {n : Nat} {z : Str} {b : Addr} {ys : List V} : SqL K H b ys → EqW K H (n + 1) (.str z) (.ref b) false
  | strTup {n : Nat} {z : Str} {b : Addr} {ys : List V} : SqT K H b ys → EqW K H (n + 1) (.str z) (.ref b) false
  | strDict {n : Nat} {z : Str} {b : Addr} {kvs : List (Key × V)} : H b = some (.dK kvs) → EqW K H (n + 1) (.str z) (.ref b) false
section
variable {X : Cx} {pins : List (Addr × Obj)} {σ : L2.St} {H : Hp} {s : Shared}
theorem vals_at : ∀ {xs : List V} {us : List Value} {i : Nat} {u : Value}, Vals xs us → us[i]? = some u → ∃ x, xs[i]? = some x ∧ RelV x u
  | _, _, i, _, .nil, h => by simp at h
  | x :: xs, u :: us, 0, _, .cons r t, h => by
    cases h
    exact ⟨x, rfl, r⟩
  | x :: xs, u :: us, i + 1, _, .cons r t, h => vals_at (xs := xs) (us := us) (i := i) t h
theorem EqW.at {n : Nat} {x y : V} {b : Bool} (h : EqW X.K H n x y b) (I : Inv X pins σ H s) : ∀ {A : Around} {u v : Value}, A.units + n < cLine → RelV x u → RelV y v → SeqAt.EqAt A s u v b := by
  induction h with
  | flat fx fy =>
    intro A u v _ rx ry
    exact eqAt_V rx ry fx fy
  | same =>
    intro A u v _ rx ry
    cases rx
    cases ry
    exact SeqAt.EqAt.same _
  | @lists n a b xs ys f ne ha hb len hf ih =>
    intro A u v hu rx ry
    cases rx
    cases ry
    obtain ⟨is, r1, p1, _⟩ := I.list ha
    obtain ⟨js, r2, p2, _⟩ := I.list hb
    have e1 := r1.length
    have e2 := r2.length
    have q := SeqAt.RcAt.lists (A := A) (s := s) (e := f) p1.isList p2.isList (by simp only [List.size_toArray]; omega) (by omega) fun j h1 h2 => by
      have g1 : is[j]? = some (is.toArray[j]'h1) := by simp
      have g2 : js[j]? = some (js.toArray[j]'h2) := by simp
      obtain ⟨x1, hx1, rx1⟩ := vals_at r1 g1
      obtain ⟨y1, hy1, ry1⟩ := vals_at r2 g2
      exact ih j x1 y1 hx1 hy1 (A := A.in1) (by have := units_in1 A; omega) rx1 ry1
    rw [List.size_toArray, ← e1] at q
    exact SeqAt.EqAt.of_refs ne q
  | @lens n a b xs ys ne ha hb len =>
    intro A u v hu rx ry
    cases rx
    cases ry
    obtain ⟨is, r1, p1, _⟩ := I.list ha
    obtain ⟨js, r2, p2, _⟩ := I.list hb
    have e1 := r1.length
    have e2 := r2.length
    exact SeqAt.EqAt.of_refs ne (SeqAt.RcAt.lists_lengths p1.isList p2.isList (by simp only [List.size_toArray, bne_iff_ne]; omega) (by omega))
  | @strList n z b ys hb =>
    intro A u v hu rx ry
    obtain ⟨t, rfl⟩ := rx
    cases ry
    obtain ⟨js, _, p2, _⟩ := I.list hb
    exact SeqAt.EqAt.str_list z t p2.isList (by omega)
  | @strTup n z b ys hb =>
    intro A u v hu rx ry
    obtain ⟨t, rfl⟩ := rx
    cases ry
    obtain ⟨js, _, p2, _⟩ := I.tuple hb
    exact SeqAt.EqAt.str_tuple z t p2 (by omega)
  | @strDict n z b kvs hb =>
    intro A u v hu rx ry
    obtain ⟨t, rfl⟩ := rx
    cases ry
    obtain ⟨_, _, vs, _, o, es, ep, ho, hx, hd, _⟩ := (show ObjOk X.prog X.w H s.heap b (.dK kvs) from I.hok b _ hb)
    obtain ⟨oc, od, dt, os⟩ := o
    dsimp only at hd
    subst hd
    obtain ⟨hc, _⟩ := hx
    dsimp only at hc
    subst hc
    exact SeqAt.g_str_dict z t ho (by omega)
end
end G1

set_option maxHeartbeats 4000000
namespace G1
open PySem PySem.Spec PyProof.Rows L2
/-- two lists, equal or not, their items at most n deep -/
def Lists2 (K : PySem.W.Frag) (H : Hp) (n : Nat) (x y : V) (b : Bool) : Prop := ∃ (a c : Addr) (xs ys : List V), x = .ref a ∧ y = .ref c ∧ SqL K H a xs ∧ SqL K H c ys ∧
  ((xs.length ≠ ys.length ∧ b = false) ∨ (xs.length = ys.length ∧ ∃ f : Nat → Bool, (∀ i x y, xs[i]? = some x → ys[i]? = some y → EqW K H n x y (f i)) ∧ b = (List.range xs.length).all f))
def rEqW (K : PySem.W.Frag) (n : Nat) : R2 := fun x y H Q => ∃ b, Lists2 K H n x y b ∧ Q (.bl b) H
def rNeW (K : PySem.W.Frag) (n : Nat) : R2 := fun x y H Q => ∃ b, Lists2 K H n x y b ∧ Q (.bl (!b)) H
section
variable {X : Cx} {n : Nat}
theorem items_at {pins : List (Addr × Obj)} {σ : L2.St} {H : Hp} {s : Shared} {xs ys : List V} {is js : List Value} {f : Nat → Bool} (I : Inv X pins σ H s) (r1 : Vals xs is) (r2 : Vals ys js) (hf : ∀ i x y, xs[i]? = some x → ys[i]? = some y → EqW X.K H n x y (f i)) {A : Around} (hu : A.units + n < cLine) :
    ∀ j (h1 : j < is.toArray.size) (h2 : j < js.toArray.size), SeqAt.EqAt A s is.toArray[j] js.toArray[j] (f j) := fun j h1 h2 => by
  have g1 : is[j]? = some (is.toArray[j]'h1) := by simp
  have g2 : js[j]? = some (js.toArray[j]'h2) := by simp
  obtain ⟨x1, hx1, rx1⟩ := vals_at r1 g1
  obtain ⟨y1, hy1, ry1⟩ := vals_at r2 g2
  exact (hf j x1 y1 hx1 hy1).at I hu rx1 ry1
theorem op_eqW (hu : X.A.units + (n + 1) < cLine) : OpR X (compareOp .Eq) (rEqW X.K n) := by
  intro pins s σ H x y v u Q I rx ry h
  obtain ⟨b, ⟨a, c, xs, ys, rfl, rfl, ha, hc, h⟩, q⟩ := h
  cases rx
  cases ry
  obtain ⟨is, r1, p1, _⟩ := I.list ha
  obtain ⟨js, r2, p2, _⟩ := I.list hc
  have e1 := r1.length
  have e2 := r2.length
  rcases h with ⟨ne, rfl⟩ | ⟨len, f, hf, rfl⟩
  · exact SeqAt.RcAt.lists_lengths p1.isList p2.isList (by simp only [List.size_toArray, bne_iff_ne]; omega) (by omega) _ _ _ _ ⟨.bl false, H, I, rfl, q⟩
  · have z := SeqAt.RcAt.lists (A := X.A) p1.isList p2.isList (e := f) (by simp only [List.size_toArray]; omega) (by omega) (items_at I r1 r2 hf (by have := units_in1 X.A; omega))
    rw [List.size_toArray, ← e1] at z
    exact z _ _ _ _ ⟨.bl _, H, I, rfl, q⟩
theorem op_neW (hu : X.A.units + (n + 1) < cLine) : OpR X (compareOp .NotEq) (rNeW X.K n) := by
  intro pins s σ H x y v u Q I rx ry h
  obtain ⟨b, ⟨a, c, xs, ys, rfl, rfl, ha, hc, h⟩, q⟩ := h
  cases rx
  cases ry
  obtain ⟨is, r1, p1, _⟩ := I.list ha
  obtain ⟨js, r2, p2, _⟩ := I.list hc
  have e1 := r1.length
  have e2 := r2.length
  rcases h with ⟨ne, rfl⟩ | ⟨len, f, hf, rfl⟩
  · exact SeqAt.RcNeAt.lists_lengths p1.isList p2.isList (by simp only [List.size_toArray, bne_iff_ne]; omega) (by omega) _ _ _ _ ⟨.bl true, H, I, rfl, q⟩
  · have z := SeqAt.RcNeAt.lists (A := X.A) p1.isList p2.isList (e := f) (by simp only [List.size_toArray]; omega) (by omega) (items_at I r1 r2 hf (by have := units_in1 X.A; omega))
    rw [List.size_toArray, ← e1] at z
    exact z _ _ _ _ ⟨.bl _, H, I, rfl, q⟩
/-- x in a list of texts, x of any kind -/
def rInW (K : PySem.W.Frag) (n : Nat) : R2 := fun x y H Q => ∃ (p : Addr) (zs : List Str) (f : Str → Bool), y = .ref p ∧ SqL K H p (zs.map V.str) ∧ (∀ z ∈ zs, EqW K H n (.str z) x (f z)) ∧ Q (.bl (zs.any f)) H
def itemS (f : Str → Bool) : Value → Bool
  | .str z _ => f z
  | _ => false
theorem any_itemS {f : Str → Bool} : ∀ {zs : List Str} {us : List Value}, Vals (zs.map V.str) us → us.any (itemS f) = zs.any f
  | [], _, .nil => rfl
  | z :: zs, u :: us, .cons r t => by
    obtain ⟨k, rfl⟩ := r
    rw [List.any_cons, List.any_cons, any_itemS t]
    rfl
theorem op_inW (hu : X.A.units + (n + 1) < cLine) : OpR X (compareOp .In) (rInW X.K n) := by
  intro pins s σ H x y v u Q I rx ry h
  obtain ⟨p, zs, f, rfl, hp, hf, q⟩ := h
  cases ry
  obtain ⟨is, r1, p1, _⟩ := I.list hp
  refine SeqAt.in_listAt (itemS f) p1.isList (fun w hw => ?_) ⟨.bl _, H, I, rfl, ?_⟩
  · obtain ⟨i, hi, e⟩ := List.mem_iff_getElem.mp (show w ∈ is by simpa using hw)
    obtain ⟨x1, hx1, rx1⟩ := vals_at r1 (i := i) (u := w) (by rw [← e]; exact List.getElem?_eq_getElem hi)
    rw [List.getElem?_map] at hx1
    obtain ⟨z, hz, rfl⟩ := Option.map_eq_some_iff.mp hx1
    have q1 := (hf z (List.mem_of_getElem? hz)).at I (A := X.A.in1) (by have := units_in1 X.A; omega) rx1 rx
    obtain ⟨k, rfl⟩ := rx1
    exact q1
  · rw [show is.toArray.any (itemS f) = is.any (itemS f) by simp, any_itemS r1]
    exact q
end
end G1

set_option maxHeartbeats 4000000
/-! x == y by an own __eq__, whatever it answers. -/
namespace G1
open PySem PySem.Spec PyProof.Rows L2
/-- the types that are told here -/
inductive TyE (H : Hp) : V → Value → Prop
  | non : TyE H .non (.type "NoneType")
  | bl (x : Bool) : TyE H (.bl x) (.type "bool")
  | int (i : Int) : TyE H (.int i) (.type "int")
  | str (z : Str) : TyE H (.str z) (.type "str")
  | lst {a : Addr} {xs : List V} : H a = some (.lst xs) → TyE H (.ref a) (.type "list")
  | tup {a : Addr} {xs : List V} : H a = some (.tup xs) → TyE H (.ref a) (.type "tuple")
  | dK {a : Addr} {kvs : List (Key × V)} : H a = some (.dK kvs) → TyE H (.ref a) (.type "dict")
  | ins {a C dx : Addr} {fs : List (Str × V)} : H a = some (.ins C dx fs) → TyE H (.ref a) (.ref C)
theorem TyE.same {H H' : Hp} {x : V} {t : Value} (h : TyE H x t) (s : Same H H') : TyE H' x t := by
  cases h with
  | non => exact .non
  | bl x => exact .bl x
  | int x => exact .int x
  | str x => exact .str x
  | lst e => exact .lst (s _ _ e)
  | tup e => exact .tup (s _ _ e)
  | dK e => exact .dK (s _ _ e)
  | ins e => exact .ins (s _ _ e)
section
variable {X : Cx} {pins : List (Addr × Obj)} {σ : L2.St} {H : Hp} {s : Shared}
theorem looks_ref {M : Model} {h : Heap} {a : Addr} {o : Obj} {t : Value} (e : h.get? a = some o) (c : o.cls = t) : PySem.W.Looks M h (typeOf (.ref a)) t := c ▸ (PySem.W.Looks.ld e).andThen .now
theorem looks_ty {x : V} {u t : Value} {M : Model} (I : Inv X pins σ H s) (rx : RelV x u) (ty : TyE H x t) : PySem.W.Looks M s.heap (typeOf u) t := by
  cases ty with
  | non =>
    cases rx
    exact PySem.W.Looks.now
  | bl x =>
    cases rx
    exact PySem.W.Looks.now
  | int i =>
    obtain ⟨k, rfl⟩ := rx
    exact PySem.W.Looks.now
  | str i =>
    obtain ⟨k, rfl⟩ := rx
    exact PySem.W.Looks.now
  | lst e =>
    cases rx
    obtain ⟨_, _, p, _⟩ := I.list (SqL.of (K := X.K) e)
    obtain ⟨o, ho, hc, _⟩ := p.isList
    exact looks_ref ho hc
  | tup e =>
    cases rx
    obtain ⟨_, _, p, _⟩ := I.tuple (SqT.of (K := X.K) e)
    obtain ⟨o, ho, hc, _⟩ := p
    exact looks_ref ho hc
  | dK e =>
    cases rx
    obtain ⟨_, _, vs, _, o, es, ep, ho, hx, _⟩ := (show ObjOk X.prog X.w H s.heap _ (.dK _) from I.hok _ _ e)
    exact looks_ref ho hx.1
  | ins e =>
    cases rx
    obtain ⟨mA, J, _⟩ := ins_get I.hok e
    obtain ⟨od, J, _⟩ := J.look
    exact J.type
/-- what an own __eq__ promises -/
def spEqB (D : V → V → Hp → Bool → Prop) : Sp := fun vs H Q _ => ∃ (x y : V) (b : Bool), vs = [x, y] ∧ D x y H b ∧ ∀ H', Same H H' → Q (.bl b) H'
def rEqO (K : PySem.W.Frag) (C : Addr) (D : V → V → Hp → Bool → Prop) : R2 := fun x y H Q => ∃ (a dx : Addr) (fs : List (Str × V)) (t : Value) (b : Bool), x = .ref a ∧ H a = some (.ins C dx fs) ∧ TyE H y t ∧ PySem.W.notFirst K C t = true ∧ D x y H b ∧ ∀ H', Same H H' → Q (.bl b) H'
theorem op_eqOwn {C f : Addr} {fd : FuncData} {ps : List Str} {k : Nat} {D : V → V → Hp → Bool → Prop} (F : FnOk X.prog X.w X.K X.mg X.base CX0 k f fd ps (spEqB D)) (hr : Room k X.A)
    (hs : PySem.W.findIn X.K (.ref C) "__eq__" = some (some (.ref f))) (hf : PySem.W.isFn X.K (.ref f) = true) (hb : Binds X.K fd ps []) : OpR X (compareOp .Eq) (rEqO X.K C D) := by
  intro pins s σ H x y v u Q I rx ry h
  obtain ⟨a, dx, fs, t, b, rfl, ha, ty, nf, hD, q⟩ := h
  cases rx
  obtain ⟨mA, J, _⟩ := ins_get I.hok ha
  obtain ⟨od, J, _⟩ := J.look
  obtain ⟨m, hF⟩ := I.fr
  refine PySem.W.cmp_K (op := .Eq) (tb := t) hr.units0 hF I.ok.mod.kin J (looks_ty I ry ty) nf hs hf ?_
  have r2 : Vals [V.ref a, y] [Value.ref a, u] := .cons rfl (.cons ry .nil)
  have sp : spEqB D ([V.ref a, y] ++ []) H (fun v H' => v = .bl b ∧ Same H H') E0 := ⟨.ref a, y, b, rfl, hD, fun H' s' => ⟨rfl, s'⟩⟩
  have len := F.len _ _ _ _ sp
  refine wpAny_call (codeAny_mono (F.run X.A X.stack s H ⟨[.ref a, u], []⟩ [.ref a, u] [V.ref a, y] _ E0 hr I.env0 (by
    have z := hb s [.ref a, u] I.kIn (by simpa using len)
    simpa using z) r2 sp) fun r s' hq => ?_)
  match r, hq with
  | .error e, hq => exact pass0 (X := X) pins σ H s e s' I hq
  | .ok (.ret w), hq =>
    obtain ⟨z, H', I', rz, ez, ex⟩ := I.after hq
    subst ez
    cases rz
    exact ⟨.bl b, H', I', rfl, q H' ex⟩
end
end G1

set_option maxHeartbeats 4000000
/-! x != y by an own __eq__. -/
namespace G1
open PySem PySem.W PySem.Calls PyProof.Rows
theorem slot_one : Slot "object" "__ne__" "object.__ne__" :=
  Slot.of (T := "object") (name := "__ne__") (owner := "object") (n := "__ne__") (by rw [typeLookup_type, builtinLookup_eq_fast]; kernel_rfl) (by decide +kernel) (by decide +kernel) (by decide +kernel) (.inl (by decide +kernel)) (by rw [isSubtype_type]; kernel_rfl)
section
variable {prog : Program} {w : World} {A : Around} {E : Value → Shared → Prop} {s : Shared} {K : Frag} {x C L f : Addr} {h₀ : Heap} {m : Str → Option Value} {ox : Obj} {od : Option Obj} {b tb : Value}
theorem ifBound_ne {M : Model} {args : List Value} {Q : Option Value → Shared → Prop} (X : K.In s.heap) (I : InstAt s.heap x ox C od) (hs : findIn K (.ref C) "__ne__" = some (some (.builtin "object.__ne__")))
    (h : wpAny M A (call (.builtin "object.__ne__") (.ref x :: args)) (fun v => Q (some v)) E s) : wpAny M A (callSpecialIfBound? (.ref x) "__ne__" args) Q E s := by
  simp only [callSpecialIfBound?, bindSpecialIfBound?]
  have fin : wpAny M A (call (.builtin "object.__ne__") ([.ref x] ++ args) >>= fun v => pure (some v)) Q E s := wpAny_bind (wpAny_mono h (fun v s' q => wpAny_pure q) fun _ _ q => q)
  refine wpAny_holding (wpAny_bind (wpAny_bind (wpAny_bind (I.type.here ((looks_findIn X hs).here ?_)))))
  simp only [slot_one.bind]
  refine wpAny_bind (wpAny_askSetting (wpAny_ite ?_))
  split
  · exact wpAny_bind (wpAny_pure (wpAny_pure fin))
  · exact wpAny_tryCatch (wpAny_bind (wpAny_pure (wpAny_pure fin)))
theorem check_ne {M : Model} {Q : Unit → Shared → Prop} (X : K.In s.heap) (I : InstAt s.heap x ox C od) (ho : subIn K (.ref C) (.type "object") = some true) (q : Q () s) :
    wpAny M A (checkBuiltinCall "object.__ne__" ⟨[.ref x, b], []⟩) Q E s := by
  simp only [checkBuiltinCall, PySem.F.cmpKind_ne, PySem.F.cmpSplit_ne]
  refine wpAny_bind ?_
  · unfold isInstance
    refine wpAny_bind (I.type.here ((looks_subIn X ho).here ?_))
    have ha : argsOk "object.__ne__" ⟨[.ref x, b], []⟩ := PySem.F.cmpArgs_ne _ _
    simp only [Bool.not_true, Bool.false_eq_true, if_false]
    cases hsig : Manifest.signature? "object.__ne__" with
    | none => exact wpAny_pure q
    | some sig =>
      simp only [argsOk, hsig] at ha
      have e : Bind.checkArgs "object.__ne__" sig ⟨[.ref x, b], []⟩ = pure () := ha
      show wpAny M A (Bind.checkArgs "object.__ne__" sig ⟨[.ref x, b], []⟩) Q E _
      rw [e]
      exact wpAny_pure q
theorem entry_ne (X : K.In s.heap) (I : InstAt s.heap x ox C od) (hs : findIn K (.ref C) "__eq__" = some (some (.ref f))) (hf : isFn K (.ref f) = true) (hu : A.units < cLine) {Q : Fin → Shared → Prop}
    (h : wpAny (model prog w) A (call (.ref f) [.ref x, b]) (fun v s' => ∃ c, v = .bool c ∧ Q (.done (.ret (.bool (!c)))) s') E s) : wpAny (model prog w) A (Builtin.«object.__ne__» ⟨[.ref x, b], []⟩) Q E s := by
  unfold Builtin.«object.__ne__»
  repeat (first
    | with_reducible refine wpAny_cRoomFor hu ?_
    | (refine wpAny_bind (m := callSpecialIfBound? (.ref x) (Str.ofString "__eq__") [b]) (ifBound_K X I hs hf (wpAny_mono h (fun r s' hr => by
        obtain ⟨c, rfl, hq⟩ := hr
        repeat (first | exact hq | exact wpAny_pure hq | exact wpAny_truthy_bool hq | (refine wpAny_bind (m := truthy (.bool _)) (wpAny_truthy_bool ?_)) | wp_step)) fun _ _ e => e)))
    | wp_step)
theorem ne_K {Q : Value → Shared → Prop} (hu : A.units + 1 < cLine) (F : Fr h₀ L s.heap m) (X₀ : K.In h₀) (I : InstAt s.heap x ox C od) (hb : Looks (model prog w) s.heap (typeOf b) tb) (hn : notFirst K C tb = true)
    (hne : findIn K (.ref C) "__ne__" = some (some (.builtin "object.__ne__"))) (ho : subIn K (.ref C) (.type "object") = some true) (hs : findIn K (.ref C) "__eq__" = some (some (.ref f))) (hf : isFn K (.ref f) = true)
    (h : wpAny (model prog w) A.in1 (call (.ref f) [.ref x, b]) (fun v s' => ∃ c, v = .bool c ∧ Q (.bool (!c)) s') E s) : wpAny (model prog w) A (richCompare .NotEq (.ref x) b) Q E s := by
  have X := X₀.keeps F.keep
  have one : wpAny (model prog w) A (tryCompare (.ref x) "__ne__" b) (fun r s' => ∃ v, r = some v ∧ Q v s') E s := by
    simp only [tryCompare]
    refine wpAny_bind (ifBound_ne X I hne (wpAny_call (codeAny_call_builtin slot_one.plain PySem.F.cmpEntry_ne (check_ne X I ho (entry_ne X I hs hf hu (wpAny_mono h (fun v s' hv => ?_) fun _ _ e => e))))))
    obtain ⟨c, rfl, hq⟩ := hv
    exact ⟨c, rfl, wpAny_pure ⟨_, rfl, hq⟩⟩
  unfold richCompare
  simp only [oneThing_ref]
  refine wpAny_holding (wpAny_bind (wpAny_cRoomFor (Nat.lt_of_succ_lt hu) ?_))
  rw [cmpInfo_NotEq]
  dsimp only
  refine wpAny_bind (I.type.here (wpAny_bind (hb.here ?_)))
  by_cases q : (Value.ref C != tb) = true
  · have e : subIn K tb (.ref C) = some false := by
      rcases Bool.or_eq_true_iff.mp hn with e | e
      · rw [beq_iff_eq.mp e] at q
        simp at q
      · exact beq_iff_eq.mp e
    rw [if_pos q]
    refine wpAny_bind ((looks_subIn X e).here ?_)
    simp only [Bool.false_eq_true, if_false]
    refine wpAny_bind (wpAny_mono one (fun r s' z => ?_) fun _ _ e => e)
    obtain ⟨v, rfl, hq⟩ := z
    exact wpAny_pure hq
  · rw [if_neg q]
    refine wpAny_bind (wpAny_pure ?_)
    simp only [Bool.false_eq_true, if_false]
    refine wpAny_bind (wpAny_mono one (fun r s' z => ?_) fun _ _ e => e)
    obtain ⟨v, rfl, hq⟩ := z
    exact wpAny_pure hq
end
end G1
namespace G1
open PySem PySem.Spec PyProof.Rows L2
section
variable {X : Cx} {pins : List (Addr × Obj)} {σ : L2.St} {H : Hp} {s : Shared}
def rNeO (K : PySem.W.Frag) (C : Addr) (D : V → V → Hp → Bool → Prop) : R2 := fun x y H Q => ∃ (a dx : Addr) (fs : List (Str × V)) (t : Value) (b : Bool), x = .ref a ∧ H a = some (.ins C dx fs) ∧ TyE H y t ∧ PySem.W.notFirst K C t = true ∧ D x y H b ∧ ∀ H', Same H H' → Q (.bl (!b)) H'
theorem op_neOwn {C f : Addr} {fd : FuncData} {ps : List Str} {k : Nat} {D : V → V → Hp → Bool → Prop} (F : FnOk X.prog X.w X.K X.mg X.base CX0 k f fd ps (spEqB D)) (hr : Room (k + 1) X.A)
    (hne : PySem.W.findIn X.K (.ref C) "__ne__" = some (some (.builtin "object.__ne__"))) (ho : PySem.W.subIn X.K (.ref C) (.type "object") = some true)
    (hs : PySem.W.findIn X.K (.ref C) "__eq__" = some (some (.ref f))) (hf : PySem.W.isFn X.K (.ref f) = true) (hb : Binds X.K fd ps []) : OpR X (compareOp .NotEq) (rNeO X.K C D) := by
  intro pins s σ H x y v u Q I rx ry h
  obtain ⟨a, dx, fs, t, b, rfl, ha, ty, nf, hD, q⟩ := h
  cases rx
  obtain ⟨mA, J, _⟩ := ins_get I.hok ha
  obtain ⟨od, J, _⟩ := J.look
  obtain ⟨m, hF⟩ := I.fr
  have hr1 : Room k X.A.in1 := hr.in1
  refine ne_K (tb := t) hr1.units0 hF I.ok.mod.kin J (looks_ty I ry ty) nf hne ho hs hf ?_
  have r2 : Vals [V.ref a, y] [Value.ref a, u] := .cons rfl (.cons ry .nil)
  have sp : spEqB D ([V.ref a, y] ++ []) H (fun v H' => v = .bl b ∧ Same H H') E0 := ⟨.ref a, y, b, rfl, hD, fun H' s' => ⟨rfl, s'⟩⟩
  have len := F.len _ _ _ _ sp
  have e0 : Env0 X.prog X.w X.K X.mg X.base X.A.in1 X.stack s H := by
    have e := I.env0
    exact ⟨e.frames, e.mod, e.bs, e.bsz, e.funs, e.frf, e.hok, e.bare⟩
  refine wpAny_call (codeAny_mono (F.run X.A.in1 X.stack s H ⟨[.ref a, u], []⟩ [.ref a, u] [V.ref a, y] _ E0 hr1 e0 (by
    have z := hb s [.ref a, u] I.kIn (by simpa using len)
    simpa using z) r2 sp) fun r s' hq => ?_)
  match r, hq with
  | .error e, hq => exact pass0 (X := X) pins σ H s e s' I hq
  | .ok (.ret w), hq =>
    obtain ⟨z, H', I', rz, ez, ex⟩ := I.after hq
    subst ez
    cases rz
    exact ⟨b, rfl, .bl (!b), H', I', rfl, q H' ex⟩
end
end G1

set_option maxHeartbeats 4000000
namespace G1
open PySem PySem.Spec PyProof.Rows L2
theorem all_range_eq {α : Type} [DecidableEq α] {xs ys : List α} (l : xs.length = ys.length) : ((List.range xs.length).all fun i => decide (xs[i]? = ys[i]?)) = decide (xs = ys) := by
  by_cases h : xs = ys
  · subst h
    rw [decide_eq_true rfl]
    exact List.all_eq_true.mpr fun i _ => decide_eq_true rfl
  · rw [decide_eq_false h, Bool.eq_false_iff]
    intro q
    refine h (List.ext_getElem? fun i => ?_)
    by_cases lt : i < xs.length
    · exact of_decide_eq_true (List.all_eq_true.mp q i (List.mem_range.mpr lt))
    · rw [List.getElem?_eq_none (by omega), List.getElem?_eq_none (by omega)]
/-- lists of texts -/
theorem lists_strs {K : PySem.W.Frag} {H : Hp} {a c : Addr} {xs ys : List Str} (ha : SqL K H a (xs.map V.str)) (hc : SqL K H c (ys.map V.str)) : Lists2 K H 0 (.ref a) (.ref c) (decide (xs = ys)) := by
  refine ⟨a, c, _, _, rfl, rfl, ha, hc, ?_⟩
  by_cases l : xs.length = ys.length
  · refine .inr ⟨by rw [List.length_map, List.length_map, l], fun i => decide (xs[i]? = ys[i]?), fun i x y hx hy => ?_, by rw [List.length_map, all_range_eq l]⟩
    rw [List.getElem?_map] at hx hy
    obtain ⟨z, hz, rfl⟩ := Option.map_eq_some_iff.mp hx
    obtain ⟨z2, hz2, rfl⟩ := Option.map_eq_some_iff.mp hy
    have e : eqV (.str z) (.str z2) = decide (xs[i]? = ys[i]?) := by
      rw [hz, hz2]
      show (z == z2) = _
      by_cases q : z = z2
      · simp [q]
      · rw [beq_eq_false_iff_ne.mpr q, decide_eq_false (fun w => q (Option.some.inj w))]
    show EqW K H 0 (.str z) (.str z2) (decide (xs[i]? = ys[i]?))
    rw [← e]
    exact .flat rfl rfl
  · exact .inl ⟨by rw [List.length_map, List.length_map]; exact l, decide_eq_false fun e => l (by rw [e])⟩
end G1

set_option maxHeartbeats 4000000
namespace G1
open PySem PySem.Spec PyProof.Rows L2
section
variable {X : Cx} {CX : CXT} {k : Nat} {C f : Addr} {fd : FuncData} {ps : List Str} {sp : Sp} {E : L2.St → XK} {x : Str} {p pos : Pos} {e : Expr} {es : List Expr} {t : TA}
/-- C(e, ..) whose __init__ may raise into a suite here -/
def tMakeS (C : Addr) (sp : Sp) (E : L2.St → XK) (t : TA) : TE := fun σ H Q => t σ H fun vs H1 => ∀ a dx, H1 a = none → H1 dx = none → dx ≠ a → sp (.ref a :: vs) (upd (upd H1 dx (.own a)) a (.ins C dx [])) (fun v H2 => v = .non ∧ Q (.ref a) H2) (E σ)
theorem pe_makeS (M : Mk X.K C f) (F : FnOk X.prog X.w X.K X.mg X.base CX k f fd ps sp) (hr : Room (k + 1) X.A) (hg : Gl X x) (hm : X.mg x = some (.ref C)) (hb : Binds X.K fd ps []) (hx : ∀ σ, PassesAt CX X σ (E σ))
    (ha : PA X (e :: es) t) (hdb : (x == ("__debug__" : Str)) = false := by decide) (he : starEach (e :: es) X.env = (false, eval e X.env) :: starEach es X.env := by rfl) (hpl : (backTo pos (starEach es X.env)).any (·.1) = false := by rfl) :
    PE X (.Call (.Name x p) (e :: es) [] pos) (tMakeS C sp E t) := by
  refine ⟨fun pins s0 σ H0 Q I0 h => wpAny_Call_Name_kw (ld_glob I0 hg hm ?_ hdb)⟩
  refine PySem.W.callWith_K (h₀ := X.base) I0.ok.mod.kin M.kp (thn (ha.run pos pins s0 σ H0 _ I0 h) fun us s ⟨vs, H, I, r, q⟩ => ⟨I.kIn, ?_⟩) he hpl
  have q1 := q (s.heap.objs.size + 1) s.heap.objs.size (I.hok.fresh (Nat.le_succ _)) (I.hok.fresh (Nat.le_refl _)) (Nat.ne_of_lt (Nat.lt_succ_self _))
  have J := Inv.made (C := C) I
  have r1 : Vals (V.ref (s.heap.objs.size + 1) :: vs) (Value.ref (s.heap.objs.size + 1) :: us) := .cons rfl r
  have len : (Value.ref (s.heap.objs.size + 1) :: us).length = ps.length := r1.length.symm.trans (F.len _ _ _ _ q1)
  have b := hb _ (Value.ref (s.heap.objs.size + 1) :: us) J.kIn (by rw [List.append_nil]; exact len)
  rw [List.append_nil] at b
  refine wpAny_call (make_map (f := f) I.kIn M.makes M.init (beq_iff_eq.mp M.fn) (codeAny_mono (F.run _ X.stack _ _ ⟨Value.ref (s.heap.objs.size + 1) :: us, []⟩ (Value.ref (s.heap.objs.size + 1) :: us) _ _ (E σ) (hr.make C us []) (J.env0.make C us []) b r1 q1) fun res s' z => ?_))
  match res, z with
  | .error u, z => exact hx σ pins _ _ u s' J z
  | .ok (.ret u), z =>
    obtain ⟨v, H', I', rv, ev, q3⟩ := J.after z
    subst ev
    exact ⟨rv, ⟨.ref (s.heap.objs.size + 1), H', I', rfl, q3⟩⟩
end
end G1

set_option maxHeartbeats 4000000
/-! Several except clauses, each with the exception's name. -/
namespace G1
open PySem PySem.Spec PyProof.Rows L2
abbrev TsE : Type := Addr → Value → Option Addr → TS
/-- the clauses' wish, one behind the other -/
def wAll (K : PySem.W.Frag) (i : Nat) (Wout : WX) (D : Ends) : List (Value × TsE) → WX
  | [] => Wout
  | (c, ts) :: r => wAs K c i ts (wAll K i Wout D r) D
inductive HdsAs (X : Cx) (n : Str) : List ExceptHandler → List (Value × TsE) → Prop
  | nil : HdsAs X n [] []
  | cons {x : Str} {c : Value} {ts : TsE} {b0 : Stmt} {su : List Stmt} {q1 q2 : Pos} {hds : List ExceptHandler} {l : List (Value × TsE)} : Names X x c →
      (∀ (a : Addr) (oe : Obj) (cls : Value) (d : Option Addr) (pn : List (Addr × Obj)), Zc cls d oe → (∃ vs, oe.data = .fields vs) → PSs (X.suite a ((a, oe) :: pn)) (b0 :: su) (ts a cls d)) → HdsAs X n hds l →
      HdsAs X n (.ExceptHandler (some (.Name x q1)) (some n) (b0 :: su) q2 :: hds) ((c, ts) :: l)
section
variable {X : Cx} {body : List Stmt} {h0 : ExceptHandler} {hds : List ExceptHandler} {l : List (Value × TsE)} {pos : Pos} {tb : WX → TS} {Wout : WX} {n : Str} {i : Nat}
theorem ps_try_all (hs : X.stack = X.env :: X.outer) (hf : X.env.frame = some X.env.locals) (hN : X.N.Nodup) (hi : X.N[i]? = some n) (hln : X.env.kindOf n = some .local) (tk : Takes X Wout)
    (hb : ∀ (W : WX) (pn : List (Addr × Obj)) (xe : Value → Shared → Prop), Takes (X.tr pn xe) W → PassesOwn (model X.prog X.w) X.A X.env xe → PSs (X.tr pn xe) body (tb W)) (hh : HdsAs X n (h0 :: hds) l) :
    PS X (.Try body (h0 :: hds) [] [] pos) (fun D σ H => tb (wAll X.K i Wout D l) D σ H) := by
  refine ⟨fun pins s σ H D I h => wpAny_Try_except ?_⟩
  have ok := I.ok
  have frm : X.A.frames = some (X.env :: X.outer) := ok.frames.trans (by rw [hs])
  have loc : Loc X.env.scope n := .inl hln
  let xe0 : Value → Shared → Prop := fun e s1 => wpAny (model X.prog X.w) X.A (noteFrame e X.env) (fun _ s2 => wpAny (model X.prog X.w) X.A (setFlight e none) (fun _ s3 => wpAny (model X.prog X.w) X.A (handleBy e X.env (h0 :: hds)) (SP X pins D) X.xe s3) X.xe s2) X.xe s1
  have take0 : Takes (X.tr (X.pn ++ pins) xe0) (wAll X.K i Wout D l) := fun u s' xx => by
    obtain ⟨a, B, sI, pins', σ1, H1, cls, d, rfl, Jx, nb, up, sky, na, os, ag, w⟩ := xx
    have J : Inv X pins σ1 H1 sI := Jx.ofTry ok
    refine Sky.land Zc.steady frm hf (by rw [← hs]; exact sky : Sky B (X.env :: X.outer) a (Zc cls d) X.env.locals s'.heap) fun h3 fl up3 => ?_
    have J3 : Inv X pins σ1 H1 { s' with heap := h3 } := J.landed nb fl.1 (up.trans up3) os ag
    obtain ⟨o3, vs3, g3, z3, d3⟩ := fl.there
    have off : a ∉ frs (X.env :: X.outer) := fun hm => by
      obtain ⟨_, o', e', no⟩ := fl.2.2.1.mem hm
      rw [g3] at e'
      cases e'
      exact no _ d3
    have nL : a ≠ X.env.locals := fun q => off (List.mem_filterMap.mpr ⟨X.env, List.mem_cons_self, hf.trans (by rw [q])⟩)
    have nF : a ∉ X.fs := fun hm => by
      obtain ⟨ev, hev, q⟩ := List.mem_filterMap.mp hm
      exact off (List.mem_filterMap.mpr ⟨ev, List.mem_cons_of_mem _ hev, q⟩)
    have S3 := J3.suite g3 d3 na nL nF
    have LT : PySem.W.Looks (model X.prog X.w) h3 (typeOf (.ref a)) cls := fun A Q E t kp q => wpAny_typeOf_ref (kp _ _ g3) (z3.1 ▸ q)
    suffices go : ∀ {hds' : List ExceptHandler} {l' : List (Value × TsE)}, HdsAs X n hds' l' → wAll X.K i Wout D l' cls d σ1 H1 → wpAny (model X.prog X.w) X.A (handleBy (.ref a) X.env hds') (SP X pins D) X.xe { s' with heap := h3 } from go hh w
    intro hds' l' hk
    induction hk with
    | nil =>
      intro w
      obtain ⟨_, _, _, oe, vs, T, oT, _, he, hz, hd, h1, hr⟩ := id fl
      refine wpAny_handleBy_nil (by
        unfold PySem.passOn
        refine wpAny_bind (wpAny_field he hd h1 ?_)
        rw [if_neg (show ¬ ((Value.ref T == Value.none) = true) by simp)]
        have up0 : wpAny (model X.prog X.w) X.A (setFlight (.ref a) X.env.frame) (fun _ s4 => wpAny (model X.prog X.w) X.A (throw (.ref a) : Sem Flow) (SP X pins D) X.xe s4) X.xe { s' with heap := h3 } := by
          rw [hf]
          exact HandSPX.setFlight_upZ fl fun h4 hh4 up4 => wpAny_throw (tk _ _ ⟨a, B, sI, pins, σ1, H1, cls, d, rfl, J, nb, (up.trans up3).trans up4, .inr (.inr (by rw [hs]; exact hh4)), na, os, ag, w⟩)
        first
          | exact wpAny_bind (wpAny_pure (wpAny_bind up0))
          | exact wpAny_bind up0)
    | @cons x c ts b0 su q1 q2 hds2 l2 hc hsu r ih =>
      intro w
      obtain ⟨b, hb1, yes, no⟩ := w
      refine wpAny_handleBy_cons (codeAny_handlers_test ?_) (by intro q; cases q)
      have test : ∀ {Q : Value → Shared → Prop} {E : Value → Shared → Prop}, Q c { s' with heap := h3 } → wpAny (model X.prog X.w) (X.A.mark (some (.ref a))) (eval (.Name x q1) X.env) Q E { s' with heap := h3 } := fun q => by
        obtain ⟨hg, hdbg, hm | ⟨hm, hv, hnn⟩⟩ := hc
        · exact ld_glob (X := X.suite a ((a, o3) :: (X.pn ++ pins))) S3 hg hm q hdbg
        · exact ld_blt (X := X.suite a ((a, o3) :: (X.pn ++ pins))) S3 hg hm hv q hnn hdbg
      refine test ((PySem.W.exm_one (M := model X.prog X.w) J3.kIn LT hb1).here ?_)
      cases b with
      | false =>
        show wpAny _ X.A (handleBy (.ref a) X.env hds2) _ _ _
        exact ih (no rfl)
      | true =>
        refine codeAny_handlers_suite_as (HandSPX.lands_againZ fl fun h4 fl4 up4 => ?_)
        obtain ⟨o4, vs4, g4, z4, d4⟩ := fl4.there
        have S4 := (J.landed nb fl4.1 ((up.trans up3).trans up4) os ag : Inv X pins σ1 H1 { s' with heap := h4 }).suite g4 d4 na nL nF
        refine store_ok (X := X.suite a ((a, o4) :: (X.pn ++ pins))) (v := .ref a) S4 hN hi loc rfl (fun s5 S5 => ?_) (.inr hln)
        refine wpAny_mono ((hsu a o4 cls d (X.pn ++ pins) z4 ⟨_, d4⟩).run [] s5 _ H1 _ S5 (yes rfl a na)) (fun fl s6 res => ?_) (fun _ _ z => False.elim z)
        have close : ∀ {σ6 : L2.St} {H6 : Hp} {Q : Shared → Prop}, Inv (X.suite a ((a, o4) :: (X.pn ++ pins))) [] σ6 H6 s6 → (∀ s7, Inv X pins (σ6.set i none) H6 s7 → Q s7) →
            wpAny (model X.prog X.w) X.A (do bindName X.env n .none; unbindBehindTheSuite X.env n q2) (fun _ s7 => Q s7) X.xe s6 := fun S6 hq => gone_ok (S6.unsuite ok) hN hi hln hq
        match fl, res with
        | .next, ⟨_, _, S6, q6⟩ => exact close S6 fun s7 J7 => ⟨_, _, J7, q6⟩
        | .brk, ⟨_, _, S6, q6⟩ => exact close S6 fun s7 J7 => ⟨_, _, J7, q6⟩
        | .cont, ⟨_, _, S6, q6⟩ => exact close S6 fun s7 J7 => ⟨_, _, J7, q6⟩
        | .ret u, ⟨_, _, _, S6, r6, q6⟩ => exact close S6 fun s7 J7 => ⟨_, _, _, J7, r6, q6⟩
  refine wpAny_mono ((hb _ (X.pn ++ pins) xe0 take0 PassesOwn.looking).run [] s σ H D (I.toTry _) h) (fun fl s1 res => ?_) (fun _ _ z => z)
  match fl, res with
  | .next, ⟨σ1, H1, J, q⟩ => exact wpAny_execs_nil ⟨σ1, H1, J.ofTry ok, q⟩
  | .brk, ⟨σ1, H1, J, q⟩ => exact ⟨σ1, H1, J.ofTry ok, q⟩
  | .cont, ⟨σ1, H1, J, q⟩ => exact ⟨σ1, H1, J.ofTry ok, q⟩
  | .ret u, ⟨v, σ1, H1, J, r, q⟩ => exact ⟨v, σ1, H1, J.ofTry ok, r, q⟩
end
end G1

set_option maxHeartbeats 4000000
/-! len(x) by an own __len__ -/
namespace G1
open PySem PySem.Spec PyProof.Rows L2
def rLenO (C : Addr) (sp : Sp) : List V → Hp → VK → Prop := fun xs H Q => ∃ (a dx : Addr) (fs : List (Str × V)) (n : Int), xs = [.ref a] ∧ H a = some (.ins C dx fs) ∧ 0 ≤ n ∧ n < 2 ^ 63 ∧ sp [.ref a] H (fun v H' => v = .int n ∧ Q (.int n) H') E0
section
variable {X : Cx}
theorem call_lenO {C f : Addr} {fd : FuncData} {ps : List Str} {k : Nat} {sp : Sp} (F : FnOk X.prog X.w X.K X.mg X.base CX0 k f fd ps sp) (hr : Room (k + 1) X.A)
    (hs : PySem.W.findIn X.K (.ref C) "__len__" = some (some (.ref f))) (hf : PySem.W.isFn X.K (.ref f) = true) (hb : Binds X.K fd ps []) : CallR X (.builtin "len") (rLenO C sp) := by
  intro pins s σ H xs us Q I r h
  obtain ⟨a, dx, fs, n, rfl, ha, n0, n1, hsp⟩ := h
  obtain ⟨u, rfl, ru⟩ := vals1 r
  obtain rfl : u = Value.ref a := ru
  obtain ⟨mA, J, _⟩ := ins_get I.hok ha
  obtain ⟨od, J, _⟩ := J.look
  obtain ⟨m, hF⟩ := I.fr
  have hr1 : Room k X.A.in1 := hr.in1
  refine PySem.W.len_K hF I.ok.mod.kin J hs hf ?_
  have r2 : Vals [V.ref a] [Value.ref a] := .cons rfl .nil
  have len := F.len _ _ _ _ hsp
  have e0 : Env0 X.prog X.w X.K X.mg X.base X.A.in1 X.stack s H := by
    have e := I.env0
    exact ⟨e.frames, e.mod, e.bs, e.bsz, e.funs, e.frf, e.hok, e.bare⟩
  refine wpAny_call (codeAny_mono (F.run X.A.in1 X.stack s H ⟨[.ref a], []⟩ [.ref a] [V.ref a] _ E0 hr1 e0 (by
    have z := hb s [.ref a] I.kIn (by simpa using len)
    simpa using z) r2 hsp) fun r s' hq => ?_)
  match r, hq with
  | .error e, hq => exact pass0 (X := X) pins σ H s e s' I hq
  | .ok (.ret w), hq =>
    obtain ⟨z, H', I', rz, ez, q⟩ := I.after hq
    subst ez
    obtain ⟨t, rfl⟩ := rz
    exact ⟨⟨n0, n1⟩, .int n, H', I'.tok _, ⟨_, rfl⟩, q⟩
end
end G1

set_option maxHeartbeats 4000000
namespace K02
open PySem PySem.Spec PyProof.Rows L2 G1
def top (i : Nat) : Stmt := PySem.Challenge.pw_cardpanel_k02_panels_made.main.body.getD i (.Pass ⟨0, 0, 0, 0⟩)
abbrev FnP (K : PySem.W.Frag) (x : Str) (st : Stmt) (f : Addr) (fd : FuncData) : Prop := FunD K x x (defArgs st) (defBody st) (defScope st) [] [] f fd
theorem okN {P : Program} {w : World} {K : PySem.W.Frag} {mg : Str → Option Value} {base : Heap} {x qual : Str} {params : Arguments} {body : List Stmt} {scope : Scope} {dvs : List V} {kws : List (Str × V)} {f : Addr} {fd : FuncData}
    {N ps : List Str} {k : Nat} {sp : Sp} (F : FunD K x qual params body scope dvs kws f fd) (S : FnScope N ps scope) (len : ∀ vs H Q E, sp vs H Q E → vs.length = ps.length)
    (hb : ∀ (cdv : Value) (A : Around) (outer : List Env) (s : Shared) (H : Hp) (vs : List V) (Q : VK) (E : XK), Room k (A.deeper (envOfC qual scope s.heap.objs.size f cdv)) → sp vs H Q E →
      ∃ t, PSs (cxOf CX0 P w K mg base N qual scope f cdv A outer s H E).nox body t ∧ t { nx := fun _ H' => Q .non H', rt := Q } (start N vs) H) : FnOk P w K mg base CX0 (k + 1) f fd ps sp :=
  F.ok S len fun cdv A outer s H vs Q E hr h => by
    obtain ⟨t, h1, h2⟩ := hb cdv A outer s H vs Q E hr h
    exact ⟨t, h1.nox, h2⟩
theorem gdN {P : Program} {w : World} {K : PySem.W.Frag} {mg : Str → Option Value} {base : Heap} {x qual : Str} {params : Arguments} {body : List Stmt} {scope : Scope} {dvs : List V} {kws : List (Str × V)} {f : Addr} {fd : FuncData}
    {N ps : List Str} {k : Nat} {sp : Sp} (F : FunD K x qual params body scope dvs kws f fd) (S : FnScope N ps scope) (len : ∀ vs H Q E, sp vs H Q E → vs.length = ps.length)
    (hb : ∀ (cdv : Value) (A : Around) (outer : List Env) (s : Shared) (H : Hp) (vs : List V) (Q : VK) (E : XK), Gd A → Room k (A.deeper (envOfC qual scope s.heap.objs.size f cdv)) → sp vs H Q E →
      ∃ t, PSs (cxOf CX0 P w K mg base N qual scope f cdv A outer s H E).nox body t ∧ t { nx := fun _ H' => Q .non H', rt := Q } (start N vs) H) : FnG P w K mg base (k + 1) f fd ps sp := by
  obtain ⟨oc, od, dV, kV, doc, pm, an, cdv, ct, osl, rfl, lk, hcd, _, _⟩ := F.ex
  refine FnG.body lk hcd S len fun A outer s H vs Q E hg hr h => ?_
  obtain ⟨t, h1, h2⟩ := hb cdv A outer s H vs Q E hg hr h
  exact ⟨t, h1.nox, h2⟩
/-! ### purses -/
def PurseL (xs : List V) (c : Nat) : Prop := ∃ v s t a : Int, xs = [.int v, .int s, .int t, .int a] ∧ 0 ≤ s ∧ s < 2147483648 ∧ 0 ≤ t ∧ t ≤ c ∧ 0 ≤ a ∧ a ≤ 1000
def Purse (H : Hp) (p : Addr) (c : Nat) : Prop := ∃ xs, H p = some (.lst xs) ∧ PurseL xs c
def But (p : Addr) (H H' : Hp) : Prop := ∀ b o, b ≠ p → H b = some o → H' b = some o
theorem PurseL.mono {xs : List V} {c d : Nat} (h : PurseL xs c) (l : c ≤ d) : PurseL xs d := by
  obtain ⟨v, s, t, a, e, h1, h2, h3, h4, h5⟩ := h
  exact ⟨v, s, t, a, e, h1, h2, h3, by omega, h5⟩
theorem Purse.mono {H : Hp} {p : Addr} {c d : Nat} (h : Purse H p c) (l : c ≤ d) : Purse H p d := by
  obtain ⟨xs, e, q⟩ := h
  exact ⟨xs, e, q.mono l⟩
theorem But.refl (p : Addr) (H : Hp) : But p H H := fun _ _ _ e => e
theorem But.trans {p : Addr} {H H1 H2 : Hp} (a : But p H H1) (b : But p H1 H2) : But p H H2 := fun c o n e => b c o n (a c o n e)
theorem But.upd {p : Addr} {H : Hp} {o : HO} : But p H (upd H p o) := fun b u n e => by
  rw [upd_ne n]
  exact e
theorem But.same {p : Addr} {H H' : Hp} (s : Same H H') : But p H H' := fun b o _ e => s b o e
theorem Purse.but {H H' : Hp} {p q : Addr} {c : Nat} (h : Purse H q c) (b : But p H H') (n : q ≠ p) : Purse H' q c := by
  obtain ⟨xs, e, z⟩ := h
  exact ⟨xs, b _ _ n e, z⟩
theorem Purse.same {H H' : Hp} {p : Addr} {c : Nat} (h : Purse H p c) (s : Same H H') : Purse H' p c := by
  obtain ⟨xs, e, z⟩ := h
  exact ⟨xs, s _ _ e, z⟩
/-! ### promises -/
def spMixed : Sp := fun vs H Q _ => ∃ s t a : Int, vs = [.int s, .int t, .int a] ∧ 0 ≤ s ∧ s < 2147483648 ∧ 0 ≤ t ∧ t < 2 ^ 40 ∧ 0 ≤ a ∧ a ≤ 1000 ∧ ∀ r : Int, Q (.int r) H
def spDraw : Sp := fun vs H Q _ => ∃ (p : Addr) (m : Int) (c : Nat), vs = [.ref p, .int m] ∧ 0 < m ∧ m < 1073741824 ∧ Purse H p c ∧ c ≤ 1000000 ∧
  ∀ (r : Int) (H' : Hp), 0 ≤ r → r < m → Purse H' p (c + 3) → But p H H' → Q (.int r) H'
section
variable {P : Program} {w : World} {K : PySem.W.Frag} {mg : Str → Option Value} {base : Heap}
abbrev sMixed : Stmt := top 17
theorem scMixed : FnScope ["_law_seed", "_law_turn", "_law_at", "_law_mixed_here"] ["_law_seed", "_law_turn", "_law_at"] (defScope sMixed) := ⟨rfl, rfl, rfl, by decide +kernel, rfl, by decide +kernel, by decide +kernel⟩
theorem ok_mixed {f : Addr} {fd : FuncData} (F : FnP K "_law_mixed" sMixed f fd) : FnOk P w K mg base CX0 1 f fd ["_law_seed", "_law_turn", "_law_at"] spMixed := by
  refine okN F scMixed (fun vs H Q E h => ?_) (fun cdv A outer s H vs Q E hr h => ?_)
  · obtain ⟨_, _, _, rfl, _⟩ := h
    rfl
  · obtain ⟨sd, t, a, rfl, h1, h2, h3, h4, h5, h6, k⟩ := h
    refine ⟨_, pss_cons (ps_set (i := 3) scMixed.nd rfl (Or.inl rfl) (pe_op op_add (pe_op op_mul (pv 0) pe_int) (pe_op op_mul (pe_op op_mul pe_int (pv 1)) (pv 1))))
      (pss_cons (ps_set (i := 3) scMixed.nd rfl (Or.inl rfl) (pe_op op_mod (pe_op op_add (pe_op op_add (pv 3) (pe_op op_mul pe_int (pv 2))) (pv 1)) pe_int))
      (pss_cons (ps_set (i := 3) scMixed.nd rfl (Or.inl rfl) (pe_op op_mod (pe_op op_add (pe_op op_mul (pv 3) (pv 3)) pe_int) pe_int))
      (pss_one (ps_ret (pe_op op_mod (pe_op op_mul (pv 3) pe_int) pe_int))))), ?_⟩
    refine ⟨_, rfl, _, _, rfl, rfl, .inl ⟨by omega, by omega⟩, _, rfl, _, _, rfl, rfl, .inl ⟨by decide, by decide⟩, _, rfl, _, _, rfl, rfl, .inr ⟨by omega, by omega⟩, _, _, rfl, rfl, ?_⟩
    refine ⟨_, rfl, _, rfl, _, _, rfl, rfl, .inl ⟨by decide, by decide⟩, _, _, rfl, rfl, _, rfl, _, _, rfl, rfl, _, _, rfl, rfl, (by show (0 : Int) < 2147483647; decide), ?_⟩
    generalize hm : (sd * 69069 + 104729 * t * t + 7919 * a + t) % 2147483647 = m
    have m0 : 0 ≤ m := by rw [← hm]; exact Int.emod_nonneg _ (by decide)
    have m1 : m < 2147483647 := by rw [← hm]; exact Int.emod_lt_of_pos _ (by decide)
    refine ⟨_, rfl, _, rfl, _, _, rfl, rfl, .inl ⟨by omega, by omega⟩, _, _, rfl, rfl, _, _, rfl, rfl, (by show (0 : Int) < 2147483629; decide), ?_⟩
    refine ⟨_, rfl, _, _, rfl, rfl, .inr ⟨by decide, by decide⟩, _, _, rfl, rfl, (by show (0 : Int) < 2147483587; decide), ?_⟩
    exact k _
end
end K02

set_option maxHeartbeats 4000000
namespace K02
open PySem PySem.Spec PyProof.Rows L2 G1
structure Lib (K : PySem.W.Frag) (mg : Str → Option Value) : Prop where
  sum : mg "sum" = none
  max : mg "max" = none
  min : mg "min" = none
  len : mg "len" = none
  range : mg "range" = none
section
variable {P : Program} {w : World} {K : PySem.W.Frag} {mg : Str → Option Value} {base : Heap}
abbrev sDraw : Stmt := top 18
theorem scDraw : FnScope ["_law_purse_here", "_law_many", "_law_drawn", "_law_found", "_law_piece"] ["_law_purse_here", "_law_many"] (defScope sDraw) := ⟨rfl, rfl, rfl, by decide +kernel, rfl, by decide +kernel, by decide +kernel⟩
theorem ok_draw {f fM : Addr} {fd fdM : FuncData} (F : FnP K "_law_draw" sDraw f fd) (L : Lib K mg) (FM : FnP K "_law_mixed" sMixed fM fdM) (gM : mg "_law_mixed" = some (.ref fM)) :
    FnOk P w K mg base CX0 2 f fd ["_law_purse_here", "_law_many"] spDraw := by
  have GM : FnOk P w K mg base CX0 1 fM fdM ["_law_seed", "_law_turn", "_law_at"] spMixed := ok_mixed FM
  have bM : Binds K fdM ["_law_seed", "_law_turn", "_law_at"] [] := FM.bindsN fun _ _ _ _ _ _ us hl => match us, hl with | [_, _, _], _ => rfl
  refine okN F scDraw (fun vs H Q E h => ?_) (fun cdv A outer s H vs Q E hr h => ?_)
  · obtain ⟨_, _, _, rfl, _⟩ := h
    rfl
  · obtain ⟨p, m, c, rfl, m0, m1, ⟨xs, hp, v, sd, t, a, rfl, h1, h2, h3, h4, h5, h6⟩, hc, k⟩ := h
    refine ⟨_, pss_cons (ps_if (pt_cmpR op_gt (pe_ix ix_list (pv 0) pe_int (fun _ _ => rfl)) pe_int (nomark _))
        (pss_cons (ps_set (i := 2) scDraw.nd rfl (Or.inl rfl) (pe_op op_mod (pe_ix ix_list (pv 0) pe_int (fun _ _ => rfl)) (pv 1)))
        (pss_cons (ps_asg (pe_op op_fdiv (pe_ix ix_list (pv 0) pe_int (fun _ _ => rfl)) (pv 1)) (pg_sub (pv 0) pe_int set_list))
        (pss_one (ps_ret (pv 2))))) pss_nil)
      (pss_cons (ps_set (i := 3) scDraw.nd rfl (Or.inl rfl) pe_int)
      (pss_cons (ps_for PassesOwn.never rfl (pi_range1 rfl L.range (pa_cons (pe_op op_add pe_int (pe_op op_fdiv (pe_bits (pv 1)) pe_int)) pa_nil)) (pg_name (i := 4) scDraw.nd rfl (Or.inl rfl))
        (pss_cons (ps_asg (pe_op op_add (pe_ix ix_list (pv 0) pe_int (fun _ _ => rfl)) pe_int) (pg_sub (pv 0) pe_int set_list))
        (pss_one (ps_set (i := 3) scDraw.nd rfl (Or.inl rfl) (pe_op op_add (pe_op op_mul (pv 3) pe_int)
          (pe_call GM hr rfl gM FM.kp bM .nil pass0 (pa_cons (pe_ix ix_list (pv 0) pe_int (fun _ _ => rfl)) (pa_cons (pe_ix ix_list (pv 0) pe_int (fun _ _ => rfl)) (pa_cons (pe_ix ix_list (pv 0) pe_int (fun _ _ => rfl)) pa_nil)))))))))
      (pss_one (ps_ret (pe_op op_mod (pv 3) (pv 1)))))), ?_⟩
    have at0 : ∀ {x y z u : V}, atI [x, y, z, u] 0 = some x := rfl
    have at1 : ∀ {x y z u : V}, atI [x, y, z, u] 1 = some y := rfl
    have at2 : ∀ {x y z u : V}, atI [x, y, z, u] 2 = some z := rfl
    have at3 : ∀ {x y z u : V}, atI [x, y, z, u] 3 = some u := rfl
    refine ⟨_, rfl, p, _, _, _, rfl, rfl, SqL.of hp, at0, _, _, rfl, rfl, _, rfl, ?_⟩
    refine ite2 (fun _ => ?_) (fun _ => ?_)
    · refine ⟨_, rfl, p, _, _, _, rfl, rfl, SqL.of hp, at0, _, rfl, _, _, rfl, rfl, m0, ?_⟩
      refine ⟨_, rfl, p, _, _, _, rfl, rfl, SqL.of hp, at0, _, rfl, _, _, rfl, rfl, ⟨m0, m1⟩, ?_⟩
      refine ⟨_, rfl, p, _, _, 0, rfl, rfl, hp, rfl, ?_⟩
      refine ⟨_, rfl, ?_⟩
      exact k _ _ (Int.emod_nonneg _ (by omega)) (Int.emod_lt_of_pos _ m0) ⟨_, upd_same, v / m, sd, t, a, rfl, h1, h2, h3, by omega, h5, h6⟩ But.upd
    · have hb : Builtin.Int.intBits m ≤ 64 := intBits_le_64 (by omega) (by omega)
      have e28 : ((Builtin.Int.intBits m : Nat) : Int) / 28 ≤ 2 := by omega
      have n28 : 0 ≤ ((Builtin.Int.intBits m : Nat) : Int) / 28 := by omega
      refine ⟨_, rfl, m, rfl, _, _, rfl, rfl, ⟨by decide, by decide⟩, _, _, rfl, rfl, _, rfl, by omega, by omega, ?_⟩
      generalize hn : (1 + ((Builtin.Int.intBits m : Nat) : Int) / 28).toNat = n
      have n3 : n ≤ 3 := by omega
      refine for_range (lo := 0) (n := n) (fun i σ H' => ∃ (r : Int) (o : Option V), σ = [some (.ref p), some (.int m), none, some (.int r), o] ∧ But p H H' ∧ ∃ t' : Int, H' p = some (.lst [.int v, .int sd, .int t', .int a]) ∧ 0 ≤ t' ∧ t' ≤ (c : Int) + i)
        ⟨0, none, rfl, But.refl _ _, t, hp, h3, by omega⟩ ?_ ?_
      · rintro i σ H' hi ⟨r, o, rfl, hb', t', hp', u1, u2⟩
        refine ⟨_, rfl, p, _, _, _, rfl, rfl, SqL.of hp', at2, _, _, rfl, rfl, _, rfl, p, _, _, 2, rfl, rfl, hp', rfl, ?_⟩
        have hp2 : upd H' p (.lst [.int v, .int sd, .int (t' + 1), .int a]) p = some (.lst [.int v, .int sd, .int (t' + 1), .int a]) := upd_same
        refine ⟨_, rfl, _, _, rfl, rfl, .inr ⟨by decide, by decide⟩, _, rfl, p, _, _, _, rfl, rfl, SqL.of hp2, at1, _, rfl, p, _, _, _, rfl, rfl, SqL.of hp2, at2, _, rfl, p, _, _, _, rfl, rfl, SqL.of hp2, at3, ?_⟩
        refine ⟨sd, t' + 1, a, rfl, h1, h2, by omega, by omega, h5, h6, fun q => ?_⟩
        refine ⟨_, _, rfl, rfl, ?_⟩
        exact ⟨_, _, rfl, hb'.trans But.upd, t' + 1, hp2, by omega, by omega⟩
      · rintro σ H' ⟨r, o, rfl, hb', t', hp', u1, u2⟩
        refine ⟨_, rfl, _, rfl, _, _, rfl, rfl, m0, ?_⟩
        exact k _ _ (Int.emod_nonneg _ (by omega)) (Int.emod_lt_of_pos _ m0) ⟨_, hp', v, sd, t', a, rfl, h1, h2, u1, by omega, h5, h6⟩ hb'
end
end K02

set_option maxHeartbeats 4000000
namespace K02
open PySem PySem.Spec PyProof.Rows L2 G1
def spPurse (K : PySem.W.Frag) : Sp := fun vs H Q _ => ∃ (a : Addr) (i : Int) (ns : List Int), vs = [.ref a, .int i] ∧ SqL K H a (ns.map V.int) ∧ 0 ≤ i ∧ i ≤ 1000 ∧
  ∀ (p : Addr) (H' : Hp), H p = none → Purse H' p 0 → Same H H' → Q (.ref p) H'
def spPurses (K : PySem.W.Frag) : Sp := fun vs H Q _ => ∃ (a : Addr) (few : Int) (ns : List Int), vs = [.ref a, .int few] ∧ SqL K H a (ns.map V.int) ∧ few ≤ 100 ∧
  ∀ (D : Addr) (ps : List Addr) (H' : Hp), H D = none → H' D = some (.lst (ps.map V.ref)) → (∀ p ∈ ps, Purse H' p 0 ∧ p ≠ D) → ps.length ≤ 100 → Same H H' → Q (.ref D) H'
theorem cut_ints (ns : List Int) (lo hi : Option Int) : ∃ zs : List Int, cutV (ns.map V.int) lo hi = zs.map V.int := by
  unfold cutV
  rw [← List.map_drop, ← List.map_take]
  exact ⟨_, rfl⟩
section
variable {P : Program} {w : World} {K : PySem.W.Frag} {mg : Str → Option Value} {base : Heap}
abbrev sPurse : Stmt := top 16
theorem scPurse : FnScope ["_law_script", "_law_at", "_law_seed"] ["_law_script", "_law_at"] (defScope sPurse) := ⟨rfl, rfl, rfl, by decide +kernel, rfl, by decide +kernel, by decide +kernel⟩
theorem ok_purse {f : Addr} {fd : FuncData} (F : FnP K "_law_purse" sPurse f fd) (L : Lib K mg) : FnOk P w K mg base CX0 1 f fd ["_law_script", "_law_at"] (spPurse K) := by
  refine okN F scPurse (fun vs H Q E h => ?_) (fun cdv A outer s H vs Q E hr h => ?_)
  · obtain ⟨_, _, _, rfl, _⟩ := h
    rfl
  · obtain ⟨a, i, ns, rfl, hS, i0, i1, k⟩ := h
    refine ⟨_, pss_cons (ps_set (i := 2) scPurse.nd rfl (Or.inl rfl) (pe_callB (cr_sum rfl) (by rfl) L.sum (by decide +kernel) (pa_cons (pe_slice sl_list (pv 0) (po_some (pv 1)) (po_some (pe_op op_add (pv 1) pe_int))) pa_nil)))
      (pss_one (ps_ret (pe_lst (pa_cons (pe_op op_mod (pe_callB (call_max2 rfl) (by rfl) L.max (by decide +kernel) (pa_cons (pe_op op_sub (pv 2) (pe_op op_pow pe_int pe_int)) (pa_cons pe_int pa_nil))) (pe_op op_powW (pe_op op_pow pe_int pe_int) pe_int))
        (pa_cons (pe_op op_mod (pv 2) pe_int) (pa_cons pe_int (pa_cons (pv 1) pa_nil))))))), ?_⟩
    refine ⟨_, rfl, _, rfl, _, rfl, _, rfl, _, _, rfl, rfl, _, rfl, a, _, rfl, hS, fun l nl => ?_⟩
    obtain ⟨zs, ez⟩ := cut_ints ns (some i) (some (i + 1))
    refine ⟨l, zs, rfl, SqL.of (upd_same.trans (congrArg (fun x => some (HO.lst x)) ez)), ?_⟩
    refine ⟨_, rfl, _, _, rfl, rfl, ⟨by decide, by decide, by decide⟩, _, _, rfl, rfl, _, _, rfl, ?_⟩
    refine ⟨_, _, rfl, rfl, ⟨by decide, by decide, by decide⟩, _, _, rfl, rfl, ⟨by decide, by decide +kernel⟩, _, _, rfl, rfl, (by show (0 : Int) < (10 ^ (60 : Int).toNat) ^ (8 : Int).toNat; decide +kernel), ?_⟩
    refine ⟨_, rfl, _, _, rfl, rfl, (by show (0 : Int) < 2147483629; decide), _, rfl, (by show 4 ≤ sizeLine; decide), fun p np => ?_⟩
    have n0 : (upd H l (.lst (cutV (ns.map V.int) (some i) (some (i + 1))))) p = none := np
    have npl : p ≠ l := fun q => by
      rw [q, upd_same] at n0
      cases n0
    have hpn : H p = none := by
      rw [upd_ne npl] at n0
      exact n0
    refine k p _ hpn ⟨_, upd_same, _, zs.sum % 2147483629, 0, i, rfl, Int.emod_nonneg _ (by decide), Int.lt_trans (Int.emod_lt_of_pos _ (by decide)) (by decide), by omega, by omega, i0, i1⟩ fun b o e => ?_
    rw [upd_ne (ne_of_none e hpn), upd_ne (ne_of_none e nl)]
    exact e
abbrev sPurses : Stmt := top 19
theorem scPurses : FnScope ["_law_script", "_law_few", "_law_at"] ["_law_script", "_law_few"] (defScope sPurses) := ⟨rfl, rfl, rfl, by decide +kernel, rfl, by decide +kernel, by decide +kernel⟩
theorem ok_purses {f fP : Addr} {fd fdP : FuncData} (F : FnP K "_law_purses" sPurses f fd) (L : Lib K mg) (FP : FnP K "_law_purse" sPurse fP fdP) (gP : mg "_law_purse" = some (.ref fP)) :
    FnOk P w K mg base CX0 2 f fd ["_law_script", "_law_few"] (spPurses K) := by
  have GP : FnOk P w K mg base CX0 1 fP fdP ["_law_script", "_law_at"] (spPurse K) := ok_purse FP L
  have bP : Binds K fdP ["_law_script", "_law_at"] [] := FP.bindsN fun _ _ _ _ _ _ us hl => match us, hl with | [_, _], _ => rfl
  refine okN F scPurses (fun vs H Q E h => ?_) (fun cdv A outer s H vs Q E hr h => ?_)
  · obtain ⟨_, _, _, rfl, _⟩ := h
    rfl
  · obtain ⟨a, few, ns, rfl, hS, f1, k⟩ := h
    refine ⟨_, pss_one (ps_ret (pe_lc (own := [("_law_at", 2)]) (g := gName 2) (tt := tYes) rfl scPurses.nd
      (pi_range1 rfl L.range (pa_cons (pe_callB (call_max2 rfl) (by rfl) L.max (by decide +kernel) (pa_cons pe_int (pa_cons (pe_callB (call_min2 rfl) (by rfl) L.min (by decide +kernel) (pa_cons (pv 1) (pa_cons (pe_callB call_len_seq (by rfl) L.len PySem.boot_len (pa_cons (pv 0) pa_nil)) pa_nil))) pa_nil))) pa_nil))
      (blkOk_by (N := ["_law_script", "_law_few", "_law_at"]) (sc := defScope sPurses) (by decide +kernel)) (fun _ _ _ _ _ => pg_name (i := 2) scPurses.nd rfl (Or.inl rfl)) (fun _ _ _ _ _ => pts_nil)
      (fun _ _ _ _ _ => pe_call GP hr rfl gP FP.kp bP .nil pass0 (pa_cons (pv 0) (pa_cons (pv 2) pa_nil))))), ?_⟩
    refine ⟨_, rfl, _, rfl, a, _, rfl, .inl hS, _, _, rfl, _, _, rfl, ?_⟩
    generalize hj : (if (if ((ns.map V.int).length : Int) < few then ((ns.map V.int).length : Int) else few) > 1 then (if ((ns.map V.int).length : Int) < few then ((ns.map V.int).length : Int) else few) else (1 : Int)) = j
    have j1 : j ≤ 100 := by
      rw [← hj]
      split <;> (try split) <;> omega
    have j0 : 1 ≤ j := by
      rw [← hj]
      split <;> (try split) <;> omega
    refine ⟨j, rfl, by omega, by omega, fun D hD => lc_range (lo := 0) (n := j.toNat) (fun i H' => ∃ ps : List Addr, ps.length = i ∧ H' D = some (.lst (ps.map V.ref)) ∧ (∀ p ∈ ps, Purse H' p 0 ∧ p ≠ D) ∧ Same H H')
      ⟨[], rfl, upd_same, (fun p hp => nomatch hp), fun b o e => by rw [upd_ne (ne_of_none e hD)]; exact e⟩ ?_ ?_⟩
    · rintro i H' hi ⟨ps, hl, hD', hps, sm⟩
      have hi2 : i ≤ 100 := by omega
      refine ⟨rfl, _, rfl, _, rfl, a, (0 : Int) + (i : Int), ns, rfl, sm.seq hS, by omega, by omega, fun p H2 np hp s2 => ?_⟩
      have npD : p ≠ D := fun q => by
        rw [q, hD'] at np
        cases np
      refine ⟨ps.map V.ref, s2 _ _ hD', small1000 (by rw [List.length_map]; omega), ps ++ [p], by simp [hl], by rw [upd_same, List.map_append]; rfl, fun q hq => ?_, fun b o e => ?_⟩
      · rcases List.mem_append.mp hq with hq | hq
        · obtain ⟨h1, h2⟩ := hps q hq
          exact ⟨(h1.same s2).but (p := D) But.upd h2, h2⟩
        · rw [List.mem_singleton.mp hq]
          exact ⟨hp.but (p := D) But.upd npD, npD⟩
      · rw [upd_ne (ne_of_none e hD)]
        exact s2 _ _ (sm _ _ e)
    · rintro H' ⟨ps, hl, hD', hps, sm⟩
      exact k D ps H' hD hD' hps (by omega) sm
end
end K02

set_option maxHeartbeats 4000000
namespace K02
open PySem PySem.Spec PyProof.Rows L2 G1
def Letters (z : Str) : Prop := ∀ c ∈ z.cps.toList, 97 ≤ c ∧ c ≤ 122
/-- a name: one to eight small letters -/
def Nm (z : Str) : Prop := 1 ≤ z.length ∧ z.length ≤ 8 ∧ Letters z
def spWord : Sp := fun vs H Q _ => ∃ (p : Addr) (c : Nat), vs = [.ref p] ∧ Purse H p c ∧ c ≤ 900000 ∧
  ∀ (z : Str) (H' : Hp), Nm z → Purse H' p (c + 27) → But p H H' → Q (.str z) H'
theorem SqL.but {K : PySem.W.Frag} {H H' : Hp} {p l : Addr} {xs : List V} (h : SqL K H l xs) (b : But p H H') (n : l ≠ p) : SqL K H' l xs := by
  rcases h with (h | ⟨o, h⟩) | h
  · exact .inl (.inl (b _ _ n h))
  · exact .inl (.inr ⟨o, b _ _ n h⟩)
  · exact .inr h
theorem at_lt {xs : List V} {r : Int} (h0 : 0 ≤ r) (h1 : r < xs.length) : ∃ v, atI xs r = some v ∧ v ∈ xs := by
  obtain ⟨k, rfl⟩ := Int.eq_ofNat_of_zero_le h0
  have hk : k < xs.length := by omega
  exact ⟨xs[k], atI_nat (List.getElem?_eq_getElem hk), List.getElem_mem hk⟩
section
variable {P : Program} {w : World} {K : PySem.W.Frag} {mg : Str → Option Value} {base : Heap}
abbrev sWord : Stmt := top 21
theorem scWord : FnScope ["_law_purse_here", "_law_found", "_law_turn"] ["_law_purse_here"] (defScope sWord) := ⟨rfl, rfl, rfl, by decide +kernel, rfl, by decide +kernel, by decide +kernel⟩
theorem len1 (z : Str) (ch : Nat) : (z ++ (⟨#[ch]⟩ : Str)).length = z.length + 1 := by
  show (z.cps ++ #[ch]).size = z.cps.size + 1
  simp
theorem cps1 (z : Str) (ch : Nat) : (z ++ (⟨#[ch]⟩ : Str)).cps.toList = z.cps.toList ++ [ch] := by
  show (z.cps ++ #[ch]).toList = z.cps.toList ++ [ch]
  simp
theorem abc_at (r : Int) (h0 : 0 ≤ r) (h1 : r < 26) : ∃ c, atI ("abcdefghijklmnopqrstuvwxyz" : Str).cps.toList r = some c ∧ (97 ≤ c ∧ c ≤ 122) := by
  have key : ∀ n : Fin 26, (("abcdefghijklmnopqrstuvwxyz" : Str).cps.toList[n.1]?).any (fun c => decide (97 ≤ c ∧ c ≤ 122)) = true := by decide +kernel
  obtain ⟨k, rfl⟩ := Int.eq_ofNat_of_zero_le h0
  have hk := key ⟨k, by omega⟩
  cases e : ("abcdefghijklmnopqrstuvwxyz" : Str).cps.toList[k]? with
  | none =>
    rw [show ("abcdefghijklmnopqrstuvwxyz" : Str).cps.toList[(⟨k, by omega⟩ : Fin 26).1]? = none from e] at hk
    cases hk
  | some c =>
    rw [show ("abcdefghijklmnopqrstuvwxyz" : Str).cps.toList[(⟨k, by omega⟩ : Fin 26).1]? = some c from e] at hk
    exact ⟨c, by
      have q := e
      unfold atI
      obtain ⟨hlt, _⟩ := List.getElem?_eq_some_iff.mp q
      have := atI_nat (α := Nat) (xs := ("abcdefghijklmnopqrstuvwxyz" : Str).cps.toList) q
      unfold atI at this
      exact this, by simpa using hk⟩
theorem ok_word {f fD : Addr} {fd fdD : FuncData} (F : FnP K "_law_word" sWord f fd) (L : Lib K mg) (FD : FnP K "_law_draw" sDraw fD fdD) (gD : mg "_law_draw" = some (.ref fD))
    (GD : FnOk P w K mg base CX0 2 fD fdD ["_law_purse_here", "_law_many"] spDraw) : FnOk P w K mg base CX0 3 f fd ["_law_purse_here"] spWord := by
  have bD : Binds K fdD ["_law_purse_here", "_law_many"] [] := FD.bindsN fun _ _ _ _ _ _ us hl => match us, hl with | [_, _], _ => rfl
  refine okN F scWord (fun vs H Q E h => ?_) (fun cdv A outer s H vs Q E hr h => ?_)
  · obtain ⟨_, _, rfl, _⟩ := h
    rfl
  · obtain ⟨p, c, rfl, hp, hc, k⟩ := h
    refine ⟨_, pss_cons (ps_set (i := 1) scWord.nd rfl (Or.inl rfl) pe_str)
      (pss_cons (ps_for PassesOwn.never rfl (pi_range1 rfl L.range (pa_cons (pe_op op_add pe_int (pe_call GD hr rfl gD FD.kp bD .nil pass0 (pa_cons (pv 0) (pa_cons pe_int pa_nil)))) pa_nil)) (pg_name (i := 2) scWord.nd rfl (Or.inl rfl))
        (pss_one (ps_set (i := 1) scWord.nd rfl (Or.inl rfl) (pe_op op_add_str (pv 1) (pe_ix ix_str pe_str (pe_call GD hr rfl gD FD.kp bD .nil pass0 (pa_cons (pv 0) (pa_cons pe_int pa_nil))) (fun _ _ => rfl))))))
      (pss_one (ps_ret (pv 1)))), ?_⟩
    refine ⟨_, rfl, p, 8, c, rfl, by decide, by decide, hp, by omega, fun r H1 r0 r1 hp1 hb1 => ?_⟩
    refine ⟨_, _, rfl, rfl, _, rfl, by omega, by omega, ?_⟩
    generalize hn : (1 + r).toNat = n
    have n8 : n ≤ 8 := by omega
    have n1 : 1 ≤ n := by omega
    refine for_range (lo := 0) (n := n) (fun i σ H' => ∃ (z : Str) (o : Option V), σ = [some (.ref p), some (.str z), o] ∧ z.length = i ∧ Letters z ∧ Purse H' p (c + 3 + 3 * i) ∧ But p H H')
      ⟨_, none, rfl, rfl, (fun c hc => by cases hc), hp1.mono (by omega), hb1⟩ ?_ ?_
    · rintro i σ H' hi ⟨z, o, rfl, zl, zs, hp', hb'⟩
      refine ⟨_, rfl, _, rfl, p, 26, _, rfl, by decide, by decide, hp', by omega, fun q H2 q0 q1 hp2 hb2 => ?_⟩
      obtain ⟨ch, hch, hc26⟩ := abc_at q q0 q1
      refine ⟨_, q, ch, rfl, rfl, by decide +kernel, hch, _, _, rfl, rfl, ?_, _, _, rfl, ?_, ?_, hp2.mono (by omega), hb'.trans hb2⟩
      · show z.length + 1 ≤ sizeLine
        exact Nat.le_of_lt (small1000 (by omega))
      · rw [len1]
        omega
      · intro d hd
        rcases List.mem_append.mp (show d ∈ z.cps.toList ++ [ch] by rw [← cps1]; exact hd) with hd | hd
        · exact zs d hd
        · rw [List.mem_singleton.mp hd]
          exact hc26
    · rintro σ H' ⟨z, o, rfl, zl, zs, hp', hb'⟩
      exact ⟨_, rfl, k z H' ⟨by omega, by omega, zs⟩ (hp'.mono (by omega)) hb'⟩
end
end K02

set_option maxHeartbeats 4000000
namespace K02
open PySem PySem.Spec PyProof.Rows L2 G1
/-- the items of a list in some order, a new list -/
def spShuf (K : PySem.W.Frag) : Sp := fun vs H Q _ => ∃ (p l : Addr) (xs : List V) (c : Nat), vs = [.ref p, .ref l] ∧ Purse H p c ∧ c ≤ 900000 ∧ SqL K H l xs ∧ l ≠ p ∧ xs.length ≤ 100 ∧
  ∀ (D : Addr) (ys : List V) (H' : Hp), ys.Perm xs → H' D = some (.lst ys) → H D = none → Purse H' p (c + 3 * xs.length) → But p H H' → Q (.ref D) H'
theorem ins_perm {zs xs : List V} {y : V} {k : Nat} (h : zs.Perm xs) : (zs.take k ++ [y] ++ zs.drop k).Perm (xs ++ [y]) := by
  have e : (zs.take k ++ [y] ++ zs.drop k).Perm ([y] ++ (zs.take k ++ zs.drop k)) := by
    rw [← List.append_assoc]
    exact List.Perm.append_right _ List.perm_append_comm
  rw [List.take_append_drop] at e
  exact (e.trans (List.Perm.append_left [y] h)).trans List.perm_append_comm
theorem sn {H : Hp} {p : Addr} {o : HO} (h : H p = none) : Same H (upd H p o) := fun b u e => by
  rw [upd_ne (ne_of_none e h)]
  exact e
/-- D is new to H -/
theorem but_new {p D : Addr} {H H' : Hp} {o : HO} (B : But p H H') (h : H D = none) : But p H (upd H' D o) := fun b u n e => by
  rw [upd_ne (ne_of_none e h)]
  exact B b u n e
theorem But.get {p b : Addr} {H H' : Hp} {o : HO} (B : But p H H') (n : b ≠ p) (h : H b = some o) : H' b = some o := B b o n h
section
variable {P : Program} {w : World} {K : PySem.W.Frag} {mg : Str → Option Value} {base : Heap}
abbrev sShuf : Stmt := top 20
theorem scShuf : FnScope ["_law_purse_here", "_law_some", "_law_found", "_law_item"] ["_law_purse_here", "_law_some"] (defScope sShuf) := ⟨rfl, rfl, rfl, by decide +kernel, rfl, by decide +kernel, by decide +kernel⟩
theorem ok_shuf {f fD : Addr} {fd fdD : FuncData} (F : FnP K "_law_shuffled" sShuf f fd) (L : Lib K mg) (FD : FnP K "_law_draw" sDraw fD fdD) (gD : mg "_law_draw" = some (.ref fD))
    (GD : FnOk P w K mg base CX0 2 fD fdD ["_law_purse_here", "_law_many"] spDraw) : FnOk P w K mg base CX0 3 f fd ["_law_purse_here", "_law_some"] (spShuf K) := by
  have bD : Binds K fdD ["_law_purse_here", "_law_many"] [] := FD.bindsN fun _ _ _ _ _ _ us hl => match us, hl with | [_, _], _ => rfl
  refine okN F scShuf (fun vs H Q E h => ?_) (fun cdv A outer s H vs Q E hr h => ?_)
  · obtain ⟨_, _, _, _, rfl, _⟩ := h
    rfl
  · obtain ⟨p, l, xs, c, rfl, hp, hc, hl, nlp, hx, k⟩ := h
    refine ⟨_, pss_cons (ps_set (i := 2) scShuf.nd rfl (Or.inl rfl) (pe_lst pa_nil))
      (pss_cons (ps_for PassesOwn.never rfl (pi_list (pv 1)) (pg_name (i := 3) scShuf.nd rfl (Or.inl rfl))
        (pss_one (ps_expr (pe_bm PySem.F.plainAttrs_list PySem.F.slot_list_insert PySem.F.type_list_insert mt_insert (pv 2)
          (pa_cons (pe_call GD hr rfl gD FD.kp bD .nil pass0 (pa_cons (pv 0) (pa_cons (pe_op op_add (pe_callB call_len_seq (by rfl) L.len PySem.boot_len (pa_cons (pv 2) pa_nil)) pe_int) pa_nil))) (pa_cons (pv 3) pa_nil))))))
      (pss_one (ps_ret (pv 2)))), ?_⟩
    obtain ⟨pxs, hpx, hpl⟩ := id hp
    refine ⟨Nat.zero_le _, fun D hD => ⟨_, rfl, l, rfl, ⟨_, SqL.but hl (But.same (sn hD)) nlp⟩, for_list (K := K) (a := l) (xs := xs) (fun i σ H' => ∃ (o : Option V) (zs : List V), σ = [some (.ref p), some (.ref l), some (.ref D), o] ∧ zs.Perm (xs.take i) ∧ H' D = some (.lst zs) ∧ Purse H' p (c + 3 * i) ∧ But p H H')
      ?_ ?_ ?_ ?_⟩⟩
    · exact ⟨none, [], rfl, .refl _, upd_same, hp.same (sn hD), But.same (sn hD)⟩
    · rintro i σ H' _ ⟨o, zs, rfl, _, _, _, hb⟩
      exact SqL.but hl hb nlp
    · rintro i y σ H' hi ⟨o, zs, rfl, hz, hD', hp', hb⟩
      have hi1 : i < xs.length := (List.getElem?_eq_some_iff.mp hi).1
      have lz : zs.length = i := by
        rw [hz.length_eq, List.length_take]
        omega
      have nDp : D ≠ p := Ne.symm (ne_of_none hpx hD)
      refine ⟨_, rfl, .inl ⟨rfl, _, SqL.of hD'⟩, ?_⟩
      refine ⟨_, rfl, _, rfl, D, zs, rfl, .inl (SqL.of hD'), _, _, rfl, rfl, ?_⟩
      refine ⟨p, ((zs.length : Int) + 1), c + 3 * i, rfl, by omega, by omega, hp', by omega, fun r H2 r0 r1 hp2 hb2 => ?_⟩
      have hD2 := hb2 _ _ nDp hD'
      refine ⟨_, rfl, D, zs, r, y, rfl, rfl, hD2, small1000 (by omega), r0, by omega, ?_⟩
      refine ⟨_, _, rfl, (ins_perm hz).trans ?_, upd_same, (hp2.but (But.upd (p := D)) (Ne.symm nDp)).mono (by omega), but_new (hb.trans hb2) hD⟩
      rw [List.take_succ, hi]
      exact .refl _
    · rintro σ H' ⟨o, zs, rfl, hz, hD', hp', hb⟩
      rw [List.take_length] at hz
      exact ⟨_, rfl, k D zs H' hz hD' hD hp' hb⟩
end
end K02

set_option maxHeartbeats 4000000
namespace K02
open PySem PySem.Spec PyProof.Rows L2 G1
/-! ### the order of texts -/
def leS (a b : Str) : Prop := ¬ (b.cps.toList < a.cps.toList)
theorem leS_of {a b : Str} (h : ltCps b.cps.toList a.cps.toList = false) : leS a b := by
  rw [ltCps_eq] at h
  exact of_decide_eq_false h
theorem leS_trans {a b c : Str} (h1 : leS a b) (h2 : leS b c) : leS a c := fun z => by
  have l1 : a.cps.toList ≤ b.cps.toList := h1
  have l2 : b.cps.toList ≤ c.cps.toList := h2
  exact (List.le_trans l1 l2) z
theorem str_ext {a b : Str} (h : a.cps.toList = b.cps.toList) : a = b := by
  obtain ⟨⟨a⟩⟩ := a
  obtain ⟨⟨b⟩⟩ := b
  simp only at h
  rw [h]
theorem leS_anti {a b : Str} (h1 : leS a b) (h2 : leS b a) : a = b := str_ext (List.le_antisymm (show a.cps.toList ≤ b.cps.toList from h1) (show b.cps.toList ≤ a.cps.toList from h2))
theorem rising_pw : ∀ (p : Str) (l : List Str), risingS p l = true → (p :: l).Pairwise leS
  | p, [], _ => List.pairwise_singleton _ _
  | p, x :: r, h => by
    obtain ⟨h1, h2⟩ := He.ba (show (!ltCps x.cps.toList p.cps.toList && risingS x r) = true from h)
    have l1 : leS p x := leS_of (by simpa using h1)
    have ih := rising_pw x r h2
    refine List.pairwise_cons.mpr ⟨fun y hy => ?_, ih⟩
    rcases List.mem_cons.mp hy with rfl | hy
    · exact l1
    · exact leS_trans l1 (List.rel_of_pairwise_cons ih hy)
theorem sorted_pw {l : List Str} (h : sortedS l = true) : l.Pairwise leS := match l, h with
  | [], _ => .nil
  | x :: r, h => rising_pw x r h
theorem pw_eq : ∀ {xs ys : List Str}, xs.Pairwise leS → ys.Pairwise leS → xs.Perm ys → xs = ys
  | [], ys, _, _, p => (List.nil_perm.mp p).symm
  | x :: xs, [], _, _, p => by
    have := p.length_eq
    simp at this
  | x :: xs, y :: ys, h1, h2, p => by
    have e : x = y := by
      rcases List.mem_cons.mp (p.mem_iff.mp (List.mem_cons_self : x ∈ x :: xs)) with q | q
      · exact q
      · rcases List.mem_cons.mp (p.mem_iff.mpr (List.mem_cons_self : y ∈ y :: ys)) with r | r
        · exact r.symm
        · exact leS_anti (List.rel_of_pairwise_cons h1 r) (List.rel_of_pairwise_cons h2 q)
    subst e
    rw [pw_eq (List.pairwise_cons.mp h1).2 (List.pairwise_cons.mp h2).2 p.cons_inv]
/-- sorted lists of the same texts are the same -/
theorem sorted_uniq {xs ys : List Str} (h1 : sortedS xs = true) (h2 : sortedS ys = true) (p : xs.Perm ys) : xs = ys := pw_eq (sorted_pw h1) (sorted_pw h2) p
/-- entries: names, no one twice, in order -/
structure Ents (xs : List Str) : Prop where
  nm : ∀ x ∈ xs, Nm x
  nd : xs.Nodup
  so : sortedS xs = true
  st : ("pie" : Str) ∉ xs ∨ ("tart" : Str) ∉ xs
theorem map_str_inj : ∀ {xs ys : List Str}, xs.map V.str = ys.map V.str → xs = ys
  | [], [], _ => rfl
  | [], _ :: _, h => by cases h
  | _ :: _, [], h => by cases h
  | x :: xs, y :: ys, h => by
    injection h with h1 h2
    injection h1 with h3
    rw [h3, map_str_inj h2]
/-- a permutation of texts is one of texts -/
theorem perm_strs {ys : List V} {xs : List Str} (p : ys.Perm (xs.map V.str)) : ∃ zs : List Str, ys = zs.map V.str ∧ zs.Perm xs := by
  refine ⟨ys.map fun v => match v with | .str s => s | _ => Str.empty, ?_, ?_⟩
  · rw [List.map_map]
    refine (List.map_id' ys).symm.trans (List.map_congr_left fun v hv => ?_)
    obtain ⟨s, _, rfl⟩ := List.mem_map.mp (p.mem_iff.mp hv)
    rfl
  · have q := p.map fun v => match v with | .str s => s | _ => Str.empty
    rw [List.map_map] at q
    exact q.trans (by
      rw [show ((fun v => match v with | V.str s => s | _ => Str.empty) ∘ V.str) = id from rfl, List.map_id])
end K02

set_option maxHeartbeats 4000000
namespace K02
open PySem PySem.Spec PyProof.Rows L2 G1
def spNames : Sp := fun vs H Q _ => ∃ (p : Addr) (m : Int) (c : Nat), vs = [.ref p, .int m] ∧ 1 ≤ m ∧ m ≤ 6 ∧ Purse H p c ∧ c ≤ 100000 ∧
  ∀ (D : Addr) (xs : List Str) (H' : Hp), Ents xs → (xs.length : Int) = m → H' D = some (.lst (xs.map V.str)) → H D = none → Purse H' p (c + 100) → But p H H' → Q (.ref D) H'
def some8 : List Str := ["ale", "bun", "cob", "a", "zz", "egg", "marrows", "jam"]
theorem some8_nd : some8.Nodup := by decide +kernel
theorem some8_nm : ∀ x ∈ some8, Nm x := by
  have h : ∀ x ∈ some8, 1 ≤ x.length ∧ x.length ≤ 8 ∧ ∀ c ∈ x.cps.toList, 97 ≤ c ∧ c ≤ 122 := by decide +kernel
  exact h
theorem inV_str {xs : List Str} {x : Str} : inV (.str x) (xs.map V.str) = decide (x ∈ xs) := by
  unfold inV
  induction xs with
  | nil => simp
  | cons y ys ih =>
    rw [List.map_cons, List.any_cons, ih, show eqV (.str y) (.str x) = (y == x) from rfl]
    by_cases e : y = x
    · simp [e]
    · have e2 : (y == x) = false := beq_eq_false_iff_ne.mpr e
      simp only [e2, Bool.false_or, List.mem_cons, Ne.symm e, false_or]
theorem flat_strs {xs : List Str} : (xs.map V.str).all flatV = true := by
  rw [List.all_map]
  exact List.all_eq_true.mpr fun _ _ => rfl
theorem cut_take {xs : List V} {m : Nat} (h : m ≤ xs.length) : cutV xs none (some (m : Int)) = xs.take m := by
  have e : HT.sIx xs.length xs.length (some (m : Int)) = m := by
    unfold HT.sIx
    simp only [Int.toNat_natCast]
    rw [if_neg (by omega)]
    omega
  unfold cutV
  rw [e]
  rfl
theorem nil_or {z : Str} : (if z ∈ some8 then [] else [V.str z]) = (if z ∈ some8 then ([] : List Str) else [z]).map V.str := by
  by_cases h : z ∈ some8
  · rw [if_pos h, if_pos h]
    rfl
  · rw [if_neg h, if_neg h]
    rfl
/-- the eight and a fresh one -/
def nine (z : Str) : List Str := some8 ++ (if z ∈ some8 then [] else [z])
theorem nine_nd (z : Str) : (nine z).Nodup := by
  unfold nine
  by_cases h : z ∈ some8
  · rw [if_pos h, List.append_nil]
    exact some8_nd
  · rw [if_neg h]
    refine List.nodup_append.mpr ⟨some8_nd, List.pairwise_singleton _ _, fun a ha b hb e => ?_⟩
    rw [List.mem_singleton.mp hb] at e
    exact h (e ▸ ha)
theorem nine_nm {z : Str} (hz : Nm z) : ∀ x ∈ nine z, Nm x := by
  intro x hx
  unfold nine at hx
  rcases List.mem_append.mp hx with h | h
  · exact some8_nm x h
  · by_cases q : z ∈ some8
    · rw [if_pos q] at h
      cases h
    · rw [if_neg q] at h
      rw [List.mem_singleton.mp h]
      exact hz
theorem nine_st (z : Str) : ("pie" : Str) ∉ nine z ∨ ("tart" : Str) ∉ nine z := by
  have a1 : ("pie" : Str) ∉ some8 := by decide +kernel
  have a2 : ("tart" : Str) ∉ some8 := by decide +kernel
  have ne : ("pie" : Str) ≠ "tart" := by decide +kernel
  have one : ∀ y, y ∉ some8 → y ∈ nine z → y = z := fun y n h => by
    unfold nine at h
    rcases List.mem_append.mp h with h | h
    · exact absurd h n
    · by_cases q : z ∈ some8
      · rw [if_pos q] at h
        cases h
      · rw [if_neg q] at h
        exact List.mem_singleton.mp h
  by_cases h : ("pie" : Str) ∈ nine z
  · exact .inr fun h2 => ne ((one _ a1 h).trans (one _ a2 h2).symm)
  · exact .inl h
theorem nine_len (z : Str) : 8 ≤ (nine z).length ∧ (nine z).length ≤ 9 := by
  have e : some8.length = 8 := rfl
  unfold nine
  rw [List.length_append, e]
  by_cases h : z ∈ some8
  · rw [if_pos h]
    exact ⟨by simp, by simp⟩
  · rw [if_neg h]
    exact ⟨by simp, by simp⟩
section
variable {P : Program} {w : World} {K : PySem.W.Frag} {mg : Str → Option Value} {base : Heap}
abbrev sNames : Stmt := top 22
abbrev nNames : List Str := ["_law_purse_here", "_law_many", "_law_some", "_law_fresh", "_law_word_here"]
theorem scNames : FnScope nNames ["_law_purse_here", "_law_many"] (defScope sNames) := ⟨rfl, rfl, rfl, by decide +kernel, rfl, by decide +kernel, by decide +kernel⟩
theorem ok_names {f fS fW : Addr} {fd fdS fdW : FuncData} (F : FnP K "_law_names" sNames f fd) (L : Lib K mg) (ls : mg "sorted" = none)
    (FS : FnP K "_law_shuffled" sShuf fS fdS) (gS : mg "_law_shuffled" = some (.ref fS)) (GS : FnOk P w K mg base CX0 3 fS fdS ["_law_purse_here", "_law_some"] (spShuf K))
    (FW : FnP K "_law_word" sWord fW fdW) (gW : mg "_law_word" = some (.ref fW)) (GW : FnOk P w K mg base CX0 3 fW fdW ["_law_purse_here"] spWord) : FnOk P w K mg base CX0 4 f fd ["_law_purse_here", "_law_many"] spNames := by
  have bS : Binds K fdS ["_law_purse_here", "_law_some"] [] := FS.bindsN fun _ _ _ _ _ _ us hl => match us, hl with | [_, _], _ => rfl
  have bW : Binds K fdW ["_law_purse_here"] [] := FW.bindsN fun _ _ _ _ _ _ us hl => match us, hl with | [_], _ => rfl
  refine okN F scNames (fun vs H Q E h => ?_) (fun cdv A outer s H vs Q E hr h => ?_)
  · obtain ⟨_, _, _, rfl, _⟩ := h
    rfl
  · obtain ⟨p, m, c, rfl, m1, m6, hp, hc, k⟩ := h
    refine ⟨_, pss_cons (ps_asg (pe_tup (pa_cons (pe_lst (pa_cons pe_str (pa_cons pe_str (pa_cons pe_str (pa_cons pe_str (pa_cons pe_str (pa_cons pe_str (pa_cons pe_str (pa_cons pe_str pa_nil)))))))))
          (pa_cons (pe_call GW hr rfl gW FW.kp bW .nil pass0 (pa_cons (pv 0) pa_nil)) pa_nil)))
          (pg_tup (n := 2) (by rfl) (pgs_cons (pg_name (i := 2) scNames.nd rfl (Or.inr rfl)) (pgs_cons (pg_name (i := 3) scNames.nd rfl (Or.inl rfl)) pgs_nil))))
      (pss_one (ps_ret (pe_callB cr_sortedS (by rfl) ls (by decide +kernel) (pa_cons (pe_slice sl_list (pe_call GS hr rfl gS FS.kp bS .nil pass0 (pa_cons (pv 0) (pa_cons (pe_op op_cat (pv 2)
        (pe_lc (own := [("_law_word_here", 4)]) (g := gName 4) (tt := tTest (tOp (rIn K true) (tVar 4) (tVar 2))) (te := tVar 4) rfl scNames.nd (pi_list (pe_lst (pa_cons (pv 3) pa_nil)))
          (blkOk_by (N := nNames) (sc := defScope sNames) (by decide +kernel)) (fun _ _ _ _ _ => pg_name (i := 4) scNames.nd rfl (Or.inl rfl))
          (fun _ _ _ _ _ => pts_one (pt_cmpR op_notIn_seq (pv 4) (pv 2) (by rfl))) (fun _ _ _ _ _ => pv 4))) pa_nil))) po_none (po_some (pv 1))) pa_nil)))), ?_⟩
    obtain ⟨k1, rfl⟩ := Int.eq_ofNat_of_zero_le (show 0 ≤ m by omega)
    have sz2 : 2 ≤ sizeLine := by decide
    refine ⟨by decide, fun l8 n8 => ?_⟩
    have f8 : upd H l8 (.lst (some8.map V.str)) l8 = some (.lst (some8.map V.str)) := upd_same
    have s0 : Same H (upd H l8 (.lst (some8.map V.str))) := sn n8
    refine ⟨_, rfl, p, c, rfl, hp.same s0, by omega, fun z H1 hz hp1 hb1 => ?_⟩
    have n8p : l8 ≠ p := by
      obtain ⟨pxs, hpx, _⟩ := id hp
      exact Ne.symm (ne_of_none hpx n8)
    have g8 : H1 l8 = some (.lst (some8.map V.str)) := hb1 _ _ n8p f8
    have b1 : But p H H1 := (But.same s0).trans hb1
    refine ⟨sz2, fun T nT => ⟨T, _, rfl, SqT.of upd_same, rfl, _, _, rfl, _, _, rfl, rfl, ?_⟩⟩
    have s2 : Same H1 (upd H1 T (.tup [.ref l8, .str z])) := sn nT
    generalize upd H1 T (.tup [.ref l8, .str z]) = H2 at s2 ⊢
    refine ⟨_, rfl, _, rfl, _, rfl, (show 1 ≤ sizeLine from by decide), fun l1 n1 => ?_⟩
    have s3 : Same H2 (upd H2 l1 (.lst [.str z])) := sn n1
    have f1 : upd H2 l1 (.lst [.str z]) l1 = some (.lst [.str z]) := upd_same
    generalize upd H2 l1 (.lst [.str z]) = H3 at s3 f1 ⊢
    have h8 : H3 l8 = some (.lst (some8.map V.str)) := s3 _ _ (s2 _ _ g8)
    refine ⟨l1, rfl, ⟨_, SqL.of f1⟩, fun D2 hD2 => lc_list (K := K) (a := l1) (xs := [.str z]) (fun i H' => H' D2 = some (.lst (if i = 0 then [] else if z ∈ some8 then [] else [.str z])) ∧ Same H3 H') ⟨upd_same, sn hD2⟩ (fun i H' _ h => SqL.of (h.2 _ _ f1)) ?_ ?_⟩
    · rintro i y H4 hi ⟨g1, g2⟩
      have hi0 : i = 0 ∧ y = .str z := by
        match i, hi with
        | 0, hi => exact ⟨rfl, (Option.some.inj hi).symm⟩
        | (j + 1), hi => cases hi
      obtain ⟨rfl, rfl⟩ := hi0
      refine ⟨rfl, _, rfl, _, rfl, l8, some8.map V.str, rfl, .inl (SqL.of (g2 _ _ h8)), rfl, flat_strs, ?_⟩
      refine ⟨!decide (z ∈ some8), by rw [if_pos rfl, inV_str], ?_⟩
      rw [if_pos rfl] at g1
      by_cases h : z ∈ some8
      · rw [if_neg (by simp [h]), if_neg (show ¬ (0 + 1 = 0) by decide), if_pos h]
        exact ⟨g1, g2⟩
      · rw [if_pos (by simp [h])]
        refine ⟨_, rfl, [], g1, (show 0 < sizeLine by decide), ?_, fun b o e => ?_⟩
        · rw [if_neg (show ¬ (0 + 1 = 0) by decide), if_neg h]
          exact upd_same
        · rw [upd_ne (ne_of_none e hD2)]
          exact g2 _ _ e
    · rintro H4 ⟨g1, g2⟩
      rw [if_neg (show ¬ ([V.str z].length = 0) from Nat.one_ne_zero), nil_or] at g1
      refine ⟨l8, D2, _, _, rfl, rfl, g2 _ _ h8, g1, ?_, fun C nC => ?_⟩
      · have q := nine_len z
        unfold nine at q
        rw [List.length_append] at q
        rw [List.length_map, List.length_map]
        exact Nat.le_of_lt (small1000 (by omega))
      · rw [← List.map_append, show (some8 ++ (if z ∈ some8 then [] else [z])) = nine z from rfl]
        have s4 : Same H4 (upd H4 C (.lst ((nine z).map V.str))) := sn nC
        have fC : upd H4 C (.lst ((nine z).map V.str)) C = some (.lst ((nine z).map V.str)) := upd_same
        have s14 : Same H1 (upd H4 C (.lst ((nine z).map V.str))) := ((s2.trans s3).trans g2).trans s4
        have hp4 := hp1.same s14
        have ql := nine_len z
        have nCp : C ≠ p := by
          obtain ⟨pxs, hpx, _⟩ := hp1.same ((s2.trans s3).trans g2)
          exact Ne.symm (ne_of_none hpx nC)
        generalize upd H4 C (.lst ((nine z).map V.str)) = H5 at s4 fC s14 hp4 ⊢
        refine ⟨p, C, (nine z).map V.str, c + 27, rfl, hp4, by omega, SqL.of fC, nCp, (by rw [List.length_map]; omega), fun D ys H6 perm hD nD hp6 hb6 => ?_⟩
        obtain ⟨zs, rfl, pz⟩ := perm_strs perm
        have lz := pz.length_eq
        have b6 : But p H H6 := (b1.trans (But.same s14)).trans hb6
        refine ⟨_, rfl, _, rfl, D, zs.map V.str, rfl, SqL.of hD, fun E2 nE => ?_⟩
        rw [cut_take (by rw [List.length_map]; omega), ← List.map_take]
        have s7 : Same H6 (upd H6 E2 (.lst ((zs.take k1).map V.str))) := sn nE
        have fE : upd H6 E2 (.lst ((zs.take k1).map V.str)) E2 = some (.lst ((zs.take k1).map V.str)) := upd_same
        generalize upd H6 E2 (.lst ((zs.take k1).map V.str)) = H7 at s7 fE ⊢
        refine ⟨E2, zs.take k1, rfl, SqL.of fE, (by rw [List.length_take]; omega), fun us G perm2 so nG => ?_⟩
        have hp7 := hp6.same s7
        have b7 : But p H H7 := b6.trans (But.same s7)
        have nGH : H G = none := by
          cases e : H G with
          | none => rfl
          | some o =>
            obtain ⟨pxs, hpx, _⟩ := id hp7
            have := b7 _ _ (Ne.symm (ne_of_none hpx nG)) e
            rw [nG] at this
            cases this
        have len : us.length = k1 := by
          rw [perm2.length_eq, List.length_take]
          omega
        have memz : ∀ x ∈ us, x ∈ nine z := fun x hx => pz.mem_iff.mp (List.mem_of_mem_take (perm2.mem_iff.mp hx))
        refine k G us _ ⟨fun x hx => nine_nm hz x (memz x hx), ?_, so, ?_⟩ (by omega) upd_same nGH ((hp7.same (sn nG)).mono (by rw [List.length_map]; omega)) (but_new b7 nGH)
        · exact perm2.nodup_iff.mpr (List.Nodup.sublist (List.take_sublist _ _) (pz.nodup_iff.mpr (nine_nd z)))
        · exact (nine_st z).imp (fun h q => h (memz _ q)) (fun h q => h (memz _ q))
end
end K02

set_option maxHeartbeats 4000000
namespace K02
open PySem PySem.Spec PyProof.Rows L2 G1
/-- lists of texts at these places -/
inductive RowsAt (H : Hp) : List Addr → List (List Str) → Prop
  | nil : RowsAt H [] []
  | cons {a : Addr} {r : List Str} {as : List Addr} {rs : List (List Str)} : H a = some (.lst (r.map V.str)) → RowsAt H as rs → RowsAt H (a :: as) (r :: rs)
theorem RowsAt.keep {H H' : Hp} {as : List Addr} {rs : List (List Str)} (h : RowsAt H as rs) (k : ∀ a ∈ as, ∀ o, H a = some o → H' a = some o) : RowsAt H' as rs := by
  induction h with
  | nil => exact .nil
  | cons e _ ih => exact .cons (k _ List.mem_cons_self _ e) (ih fun a ha => k a (List.mem_cons_of_mem _ ha))
theorem RowsAt.same {H H' : Hp} {as : List Addr} {rs : List (List Str)} (h : RowsAt H as rs) (s : Same H H') : RowsAt H' as rs := h.keep fun a _ o e => s a o e
theorem RowsAt.snoc {H : Hp} {a : Addr} {r : List Str} {as : List Addr} {rs : List (List Str)} (h : RowsAt H as rs) (e : H a = some (.lst (r.map V.str))) : RowsAt H (as ++ [a]) (rs ++ [r]) := by
  induction h with
  | nil => exact .cons e .nil
  | cons e2 _ ih => exact .cons e2 ih
theorem RowsAt.len {H : Hp} {as : List Addr} {rs : List (List Str)} (h : RowsAt H as rs) : as.length = rs.length := by
  induction h with
  | nil => rfl
  | cons _ _ ih => rw [List.length_cons, List.length_cons, ih]
theorem RowsAt.strs {H : Hp} {as : List Addr} {rs : List (List Str)} (h : RowsAt H as rs) {a : Addr} (ha : a ∈ as) : ∃ r ∈ rs, H a = some (.lst (r.map V.str)) := by
  induction h with
  | nil => cases ha
  | cons e _ ih =>
    rcases List.mem_cons.mp ha with rfl | ha
    · exact ⟨_, List.mem_cons_self, e⟩
    · obtain ⟨r, hr, e⟩ := ih ha
      exact ⟨r, List.mem_cons_of_mem _ hr, e⟩
/-- a list without whole numbers is no purse -/
theorem ne_purse {H : Hp} {a p : Addr} {xs : List V} {c : Nat} (h : H a = some (.lst xs)) (hx : ∀ v ∈ xs, ∀ i, v ≠ .int i) (hp : Purse H p c) : a ≠ p := by
  rintro rfl
  obtain ⟨_, hpx, v, s, t, b, rfl, _⟩ := hp
  rw [h] at hpx
  injection hpx with e
  injection e with e
  exact hx (.int v) (by rw [e]; exact List.mem_cons_self) v rfl
theorem str_no_int {r : List Str} : ∀ v ∈ r.map V.str, ∀ i, v ≠ .int i := by
  intro v hv i e
  obtain ⟨_, _, rfl⟩ := List.mem_map.mp hv
  cases e
theorem ref_no_int {r : List Addr} : ∀ v ∈ r.map V.ref, ∀ i, v ≠ .int i := by
  intro v hv i e
  obtain ⟨_, _, rfl⟩ := List.mem_map.mp hv
  cases e
theorem RowsAt.but {H H' : Hp} {as : List Addr} {rs : List (List Str)} {p : Addr} {c : Nat} (h : RowsAt H as rs) (b : But p H H') (hp : Purse H p c) : RowsAt H' as rs := h.keep fun a ha o e => by
  obtain ⟨r, _, e2⟩ := h.strs ha
  exact b a o (ne_purse e2 str_no_int hp) e
theorem new_back {p a : Addr} {H H' : Hp} {c : Nat} (b : But p H H') (hp : Purse H' p c) (n : H' a = none) : H a = none := by
  cases e : H a with
  | none => rfl
  | some o =>
    obtain ⟨pxs, hpx, _⟩ := id hp
    have q := b _ _ (Ne.symm (ne_of_none hpx n)) e
    rw [n] at q
    cases q
theorem cut_any {xs : List V} {m : Nat} : cutV xs none (some (m : Int)) = xs.take m := by
  by_cases h : m ≤ xs.length
  · exact cut_take h
  · have e : HT.sIx xs.length xs.length (some (m : Int)) = xs.length := by
      unfold HT.sIx
      simp only [Int.toNat_natCast]
      rw [if_neg (by omega)]
      omega
    unfold cutV
    rw [e, List.take_of_length_le (show xs.length ≤ m by omega)]
    exact List.take_of_length_le (Nat.le_refl _)
/-- the head of one row, then the others in the order of another one -/
theorem mixed_perm {xs bs rr : List Str} (hx : xs.Nodup) (hb : bs.Perm xs) (hr : rr.Perm xs) (m : Nat) : (rr.take m ++ bs.filter (fun z => decide (z ∉ rr.take m))).Perm xs := by
  have nt : (rr.take m).Nodup := List.Nodup.sublist (List.take_sublist _ _) (hr.nodup_iff.mpr hx)
  have nb : (bs.filter (fun z => decide (z ∉ rr.take m))).Nodup := List.Nodup.sublist List.filter_sublist (hb.nodup_iff.mpr hx)
  refine (List.perm_ext_iff_of_nodup (List.nodup_append.mpr ⟨nt, nb, fun a ha b hb2 e => ?_⟩) hx).mpr fun z => ?_
  · subst e
    have := (List.mem_filter.mp hb2).2
    exact of_decide_eq_true this ha
  · rw [List.mem_append, List.mem_filter]
    constructor
    · rintro (h | ⟨h, _⟩)
      · exact hr.mem_iff.mp (List.mem_of_mem_take h)
      · exact hb.mem_iff.mp h
    · intro h
      by_cases q : z ∈ rr.take m
      · exact .inl q
      · exact .inr ⟨hb.mem_iff.mpr h, decide_eq_true q⟩
def spRows (K : PySem.W.Frag) : Sp := fun vs H Q _ => ∃ (p n : Addr) (m : Int) (c : Nat) (xs : List Str), vs = [.ref p, .ref n, .int m] ∧ 1 ≤ m ∧ m ≤ 4 ∧ Purse H p c ∧ c ≤ 200000 ∧ SqL K H n (xs.map V.str) ∧ n ≠ p ∧ xs.Nodup ∧ 1 ≤ xs.length ∧ xs.length ≤ 6 ∧
  ∀ (D : Addr) (as : List Addr) (rs : List (List Str)) (H' : Hp), H' D = some (.lst (as.map V.ref)) → H D = none → RowsAt H' as rs → (∀ a ∈ as, H a = none ∧ a ≠ D) → (rs.length : Int) = m → (∀ r ∈ rs, r.Perm xs) → Purse H' p (c + 200) → But p H H' → Q (.ref D) H'
end K02

set_option maxHeartbeats 8000000
namespace K02
open PySem PySem.Spec PyProof.Rows L2 G1
section
variable {P : Program} {w : World} {K : PySem.W.Frag} {mg : Str → Option Value} {base : Heap}
abbrev sRows : Stmt := top 23
abbrev nRows : List Str := ["_law_purse_here", "_law_names_here", "_law_many", "_law_base", "_law_found", "_law_way", "_law_turn", "_law_row", "_law_cut", "_law_head", "_law_name"]
theorem scRows : FnScope nRows ["_law_purse_here", "_law_names_here", "_law_many"] (defScope sRows) := ⟨rfl, rfl, rfl, by decide +kernel, rfl, by decide +kernel, by decide +kernel⟩
theorem row_more {H H7 : Hp} {p Fo B R : Addr} {as : List Addr} {rs : List (List Str)} {xs rr bs : List Str} {i n : Nat} (hF : H7 Fo = some (.lst (as.map V.ref))) (hr : RowsAt H7 as rs) (h3 : ∀ a ∈ as, H a = none ∧ a ≠ Fo) (h4 : rs.length = i)
    (h5 : ∀ r ∈ rs, r.Perm xs) (hB : H7 B = some (.lst (bs.map V.str))) (nBF : B ≠ Fo) (hp : Purse H7 p n) (b : But p H H7) (nF : H Fo = none) (hR : H7 R = some (.lst (rr.map V.str))) (nR : H R = none) (nRF : R ≠ Fo) (pr : rr.Perm xs) :
    upd H7 Fo (.lst (as.map V.ref ++ [V.ref R])) Fo = some (.lst ((as ++ [R]).map V.ref)) ∧ RowsAt (upd H7 Fo (.lst (as.map V.ref ++ [V.ref R]))) (as ++ [R]) (rs ++ [rr]) ∧ (∀ a ∈ as ++ [R], H a = none ∧ a ≠ Fo) ∧ (rs ++ [rr]).length = i + 1 ∧
      (∀ r ∈ rs ++ [rr], r.Perm xs) ∧ upd H7 Fo (.lst (as.map V.ref ++ [V.ref R])) B = some (.lst (bs.map V.str)) ∧ Purse (upd H7 Fo (.lst (as.map V.ref ++ [V.ref R]))) p n ∧ But p H (upd H7 Fo (.lst (as.map V.ref ++ [V.ref R]))) := by
  have keep : ∀ a, a ≠ Fo → ∀ o, H7 a = some o → upd H7 Fo (.lst (as.map V.ref ++ [V.ref R])) a = some o := fun a na o e => by
    rw [upd_ne na]
    exact e
  have nFp : Fo ≠ p := ne_purse hF ref_no_int hp
  refine ⟨by rw [upd_same, List.map_append]; rfl, RowsAt.snoc (hr.keep fun a ha => keep a (h3 a ha).2) (keep R nRF _ hR), fun a ha => ?_, by rw [List.length_append, h4]; rfl, fun r hr2 => ?_, keep B nBF _ hB, hp.but (p := Fo) But.upd (Ne.symm nFp), but_new b nF⟩
  · rcases List.mem_append.mp ha with ha | ha
    · exact h3 a ha
    · rw [List.mem_singleton.mp ha]
      exact ⟨nR, nRF⟩
  · rcases List.mem_append.mp hr2 with h | h
    · exact h5 r h
    · rw [List.mem_singleton.mp h]
      exact pr
theorem ok_rows {f fS fD : Addr} {fd fdS fdD : FuncData} (F : FnP K "_law_rows_of" sRows f fd) (L : Lib K mg)
    (FS : FnP K "_law_shuffled" sShuf fS fdS) (gS : mg "_law_shuffled" = some (.ref fS)) (GS : FnOk P w K mg base CX0 3 fS fdS ["_law_purse_here", "_law_some"] (spShuf K))
    (FD : FnP K "_law_draw" sDraw fD fdD) (gD : mg "_law_draw" = some (.ref fD)) (GD : FnOk P w K mg base CX0 2 fD fdD ["_law_purse_here", "_law_many"] spDraw) :
    FnOk P w K mg base CX0 4 f fd ["_law_purse_here", "_law_names_here", "_law_many"] (spRows K) := by
  have bS : Binds K fdS ["_law_purse_here", "_law_some"] [] := FS.bindsN fun _ _ _ _ _ _ us hl => match us, hl with | [_, _], _ => rfl
  have bD : Binds K fdD ["_law_purse_here", "_law_many"] [] := FD.bindsN fun _ _ _ _ _ _ us hl => match us, hl with | [_, _], _ => rfl
  refine okN F scRows (fun vs H Q E h => ?_) (fun cdv A outer s H vs Q E hr h => ?_)
  · obtain ⟨_, _, _, _, _, rfl, _⟩ := h
    rfl
  · obtain ⟨p, n, m, c, xs, rfl, m1, m4, hp, hc, hS, np, nd, x1, x6, k⟩ := h
    have hr2 : Room 2 (A.deeper (envOfC "_law_rows_of" (defScope sRows) s.heap.objs.size f cdv)) := hr.mono (by decide)
    refine ⟨_, pss_cons (ps_par (i := 3) (j := 4) (by rfl) scRows.nd rfl rfl (by decide) rfl rfl (pa_cons (pe_call GS hr rfl gS FS.kp bS .nil pass0 (pa_cons (pv 0) (pa_cons (pv 1) pa_nil))) (pa_cons (pe_lst pa_nil) pa_nil)) (by rfl))
      (pss_cons (ps_set (i := 5) scRows.nd rfl (Or.inl rfl) (pe_call GD hr2 rfl gD FD.kp bD .nil pass0 (pa_cons (pv 0) (pa_cons pe_int pa_nil))))
      (pss_cons (ps_for PassesOwn.never rfl (pi_range1 rfl L.range (pa_cons (pv 2) pa_nil)) (pg_name (i := 6) scRows.nd rfl (Or.inl rfl))
        (pss_cons (ps_set (i := 7) scRows.nd rfl (Or.inl rfl) (pe_call GS hr rfl gS FS.kp bS .nil pass0 (pa_cons (pv 0) (pa_cons (pv 1) pa_nil))))
        (pss_cons (ps_if (pt_cmpR op_gt (pv 5) pe_int (nomark _))
          (pss_cons (ps_asg (pe_tup (pa_cons (pe_call GD hr2 rfl gD FD.kp bD .nil pass0 (pa_cons (pv 0) (pa_cons (pe_callB call_len_seq (by rfl) L.len PySem.boot_len (pa_cons (pv 1) pa_nil)) pa_nil)))
              (pa_cons (pe_slice sl_list (pv 7) po_none (po_some (pe_op op_sub (pe_op op_add (pe_call GD hr2 rfl gD FD.kp bD .nil pass0 (pa_cons (pv 0) (pa_cons pe_int pa_nil))) (pv 5)) pe_int))) pa_nil)))
              (pg_tup (n := 2) (by rfl) (pgs_cons (pg_name (i := 8) scRows.nd rfl (Or.inl rfl)) (pgs_cons (pg_name (i := 9) scRows.nd rfl (Or.inr rfl)) pgs_nil))))
          (pss_cons (ps_set (i := 7) scRows.nd rfl (Or.inl rfl) (pe_op op_cat (pv 9)
            (pe_lc (own := [("_law_name", 10)]) (g := gName 10) (tt := tTest (tOp (rIn K true) (tVar 10) (tVar 9))) (te := tVar 10) rfl scRows.nd (pi_list (pv 3))
              (blkOk_by (N := nRows) (sc := defScope sRows) (by decide +kernel)) (fun _ _ _ _ _ => pg_name (i := 10) scRows.nd rfl (Or.inl rfl))
              (fun _ _ _ _ _ => pts_one (pt_cmpR op_notIn_seq (pv 10) (pv 9) (by rfl))) (fun _ _ _ _ _ => pv 10))))
          (pss_one (ps_set (i := 7) scRows.nd rfl (Or.inl rfl) (pe_ifExp (pt_cmpR op_gt (pv 8) pe_int (nomark _)) (pv 7) (pe_revL (pv 7))))))) pss_nil)
        (pss_one (ps_expr (pe_bm PySem.F.plainAttrs_list PySem.F.slot_list_append PySem.F.type_list_append mt_append (pv 4) (pa_cons (pv 7) pa_nil)))))))
      (pss_one (ps_ret (pv 4))))), ?_⟩
    refine ⟨_, rfl, _, rfl, p, n, xs.map V.str, c, rfl, hp, by omega, hS, np, (by rw [List.length_map]; omega), fun B ys H1 perm hB nB hp1 hb1 => ?_⟩
    obtain ⟨bs, rfl, pb⟩ := perm_strs perm
    rw [List.length_map] at hp1
    refine ⟨Nat.zero_le _, fun Fo nF => ⟨_, _, rfl, ?_⟩⟩
    have s2 : Same H1 (upd H1 Fo (.lst [])) := sn nF
    have fF : upd H1 Fo (.lst []) Fo = some (.lst []) := upd_same
    have nFH : H Fo = none := new_back hb1 hp1 nF
    have nBF : B ≠ Fo := ne_of_none hB nF
    generalize upd H1 Fo (.lst []) = H2 at s2 fF ⊢
    refine ⟨_, rfl, p, 3, c + 3 * xs.length, rfl, by decide, by decide, hp1.same s2, by omega, fun way H3 w0 w3 hp3 hb3 => ?_⟩
    have nFp : Fo ≠ p := ne_purse fF (fun v hv => nomatch hv) (hp1.same s2)
    have nBp : B ≠ p := ne_purse hB str_no_int hp1
    have b3 : But p H H3 := (hb1.trans (But.same s2)).trans hb3
    refine ⟨_, rfl, m, rfl, by omega, by omega, ?_⟩
    refine for_range (lo := 0) (n := m.toNat) (fun i σ H' => ∃ (o6 o7 o8 o9 : Option V) (as : List Addr) (rs : List (List Str)), σ = [some (.ref p), some (.ref n), some (.int m), some (.ref B), some (.ref Fo), some (.int way), o6, o7, o8, o9, none] ∧
        H' Fo = some (.lst (as.map V.ref)) ∧ RowsAt H' as rs ∧ (∀ a ∈ as, H a = none ∧ a ≠ Fo) ∧ rs.length = i ∧ (∀ r ∈ rs, r.Perm xs) ∧ H' B = some (.lst (bs.map V.str)) ∧ Purse H' p (c + 30 + 30 * i) ∧ But p H H')
      ⟨none, none, none, none, [], [], rfl, hb3 _ _ nFp fF, .nil, (fun a ha => nomatch ha), rfl, (fun r hr => nomatch hr), hb3 _ _ nBp (s2 _ _ hB), hp3.mono (by omega), b3⟩ ?_ ?_
    · rintro i σ H4 hi ⟨o6, o7, o8, o9, as, rs, rfl, g1, g2, g3, g4, g5, g6, g7, g8⟩
      refine ⟨_, rfl, _, rfl, p, n, xs.map V.str, _, rfl, g7, by omega, SqL.but hS g8 np, np, (by rw [List.length_map]; omega), fun R ys H5 perm5 hR nR hp5 hb5 => ?_⟩
      obtain ⟨rr, rfl, pr⟩ := perm_strs perm5
      rw [List.length_map] at hp5
      have b5 : But p H H5 := g8.trans hb5
      have nRH : H R = none := new_back g8 g7 nR
      have nRF : R ≠ Fo := Ne.symm (ne_of_none g1 nR)
      have f5 : H5 Fo = some (.lst (as.map V.ref)) := hb5 _ _ nFp g1
      have r5 : RowsAt H5 as rs := g2.but hb5 g7
      have e5 : H5 B = some (.lst (bs.map V.str)) := hb5 _ _ nBp g6
      refine ⟨_, rfl, _, _, rfl, rfl, _, rfl, ?_⟩
      refine ite2 (fun _ => ?_) (fun _ => ?_)
      · -- the head of this row, the others in the order of the base
        have nRp : R ≠ p := ne_purse hR str_no_int hp5
        refine ⟨_, rfl, _, rfl, n, xs.map V.str, rfl, .inl (SqL.but hS b5 np), ?_⟩
        refine ⟨p, _, _, rfl, (by rw [List.length_map]; omega), (by rw [List.length_map]; omega), hp5, by omega, fun cut H6 c0 c1 hp6 hb6 => ?_⟩
        refine ⟨_, rfl, _, rfl, p, 3, _, rfl, by decide, by decide, hp6, by omega, fun q H7 q0 q3 hp7 hb7 => ?_⟩
        refine ⟨_, rfl, _, _, rfl, rfl, _, _, rfl, rfl, ?_⟩
        have w1 : 0 < way := of_decide_eq_true (by assumption)
        obtain ⟨t, ht⟩ := Int.eq_ofNat_of_zero_le (show 0 ≤ q + way - 1 by omega)
        refine ⟨_, rfl, ?_⟩
        rw [ht]
        have b57 : But p H5 H7 := hb6.trans hb7
        have hR7 := b57 _ _ nRp hR
        refine ⟨R, rr.map V.str, rfl, SqL.of hR7, fun Hd nHd => ?_⟩
        rw [cut_any, ← List.map_take]
        have s8 : Same H7 (upd H7 Hd (.lst ((rr.take t).map V.str))) := sn nHd
        have f8 : upd H7 Hd (.lst ((rr.take t).map V.str)) Hd = some (.lst ((rr.take t).map V.str)) := upd_same
        generalize upd H7 Hd (.lst ((rr.take t).map V.str)) = H8 at s8 f8 ⊢
        refine ⟨(show 2 ≤ sizeLine by decide), fun T nT => ⟨T, _, rfl, SqT.of upd_same, rfl, _, _, rfl, _, _, rfl, rfl, ?_⟩⟩
        have s9 : Same H8 (upd H8 T (.tup [.int cut, .ref Hd])) := sn nT
        generalize upd H8 T (.tup [.int cut, .ref Hd]) = H9 at s9 ⊢
        have s79 := s8.trans s9
        have nFp5 : Fo ≠ p := nFp
        have e9 : H9 B = some (.lst (bs.map V.str)) := s79 _ _ (b57 _ _ nBp e5)
        have f9 : H9 Fo = some (.lst (as.map V.ref)) := s79 _ _ (b57 _ _ nFp f5)
        have r9 : RowsAt H9 as rs := (r5.but b57 hp5).same s79
        have hp9 := hp7.same s79
        have b9 : But p H H9 := (b5.trans b57).trans (But.same s79)
        have h9 : H9 Hd = some (.lst ((rr.take t).map V.str)) := s9 _ _ f8
        refine ⟨_, rfl, _, rfl, B, rfl, ⟨_, SqL.of e9⟩, fun D2 hD2 => lc_list (K := K) (a := B) (xs := bs.map V.str)
          (fun i H' => H' D2 = some (.lst (((bs.take i).filter (fun z => decide (z ∉ rr.take t))).map V.str)) ∧ Same H9 H') ⟨upd_same, sn hD2⟩ (fun i H' _ h => SqL.of (h.2 _ _ e9)) ?_ ?_⟩
        · rintro j y H10 hj ⟨q1, q2⟩
          rw [List.getElem?_map] at hj
          obtain ⟨z, hz, rfl⟩ := Option.map_eq_some_iff.mp hj
          have tk : (bs.take (j + 1)).filter (fun z => decide (z ∉ rr.take t)) = (bs.take j).filter (fun z => decide (z ∉ rr.take t)) ++ [z].filter (fun z => decide (z ∉ rr.take t)) := by
            rw [List.take_succ, hz, List.filter_append]
            rfl
          refine ⟨rfl, _, rfl, _, rfl, Hd, (rr.take t).map V.str, rfl, .inl (SqL.of (q2 _ _ h9)), rfl, flat_strs, ?_⟩
          refine ⟨!decide (z ∈ rr.take t), by rw [if_pos rfl, inV_str], ?_⟩
          by_cases hm : z ∈ rr.take t
          · refine Eq.mpr (if_neg (show ¬ ((!decide (z ∈ rr.take t)) = true) by simp [hm])) ?_
            rw [tk, List.filter_cons_of_neg (by simp [hm]), List.filter_nil, List.append_nil]
            exact ⟨q1, q2⟩
          · refine Eq.mpr (if_pos (show (!decide (z ∈ rr.take t)) = true by simp [hm])) ?_
            refine ⟨_, rfl, _, q1, ?_, ?_, fun b o e => ?_⟩
            · refine small1000 ?_
              rw [List.length_map]
              have := List.length_filter_le (fun z => decide (z ∉ rr.take t)) (bs.take j)
              have := pb.length_eq
              have := List.length_take_le j bs
              have := List.length_take_le' j bs
              omega
            · rw [upd_same, tk, List.filter_cons_of_pos (by simp [hm]), List.filter_nil, List.map_append]
              rfl
            · rw [upd_ne (ne_of_none e hD2)]
              exact q2 _ _ e
        · rintro H10 ⟨q1, q2⟩
          rw [List.length_map, List.take_length] at q1
          have perm9 := mixed_perm nd pb pr t
          have len9 := perm9.length_eq
          rw [List.length_append] at len9
          refine ⟨Hd, D2, _, _, rfl, rfl, q2 _ _ h9, q1, ?_, fun C nC => ?_⟩
          · rw [List.length_map, List.length_map, len9]
            exact Nat.le_of_lt (small1000 (by omega))
          · rw [← List.map_append]
            generalize hmix : rr.take t ++ bs.filter (fun z => decide (z ∉ rr.take t)) = mx at perm9 ⊢
            have s10 : Same H9 (upd H10 C (.lst (mx.map V.str))) := q2.trans (sn nC)
            have fC : upd H10 C (.lst (mx.map V.str)) C = some (.lst (mx.map V.str)) := upd_same
            have nCH : H C = none := new_back (b9.trans (But.same q2)) (hp9.same q2) nC
            have nCF : C ≠ Fo := Ne.symm (ne_of_none (q2 _ _ f9) nC)
            generalize upd H10 C (.lst (mx.map V.str)) = H11 at s10 fC ⊢
            have e11 := s10 _ _ e9
            have f11 := s10 _ _ f9
            have r11 := r9.same s10
            have hp11 := hp9.same s10
            have b11 := b9.trans (But.same s10)
            refine ⟨_, rfl, _, _, rfl, rfl, _, rfl, ?_⟩
            refine ite2 (fun _ => ?_) (fun _ => ?_)
            · have q := row_more (i := i) f11 r11 g3 g4 g5 e11 nBF (hp11.mono (show _ ≤ c + 30 + 30 * (i + 1) by omega)) b11 nFH fC nCH nCF perm9
              refine ⟨_, rfl, _, rfl, .inl ⟨rfl, _, SqL.of f11⟩, _, rfl, Fo, as.map V.ref, .ref C, rfl, rfl, f11, small1000 (by rw [List.length_map, r11.len]; omega), ?_⟩
              exact ⟨_, _, _, _, as ++ [C], rs ++ [mx], rfl, q⟩
            · refine ⟨_, rfl, C, _, rfl, SqL.of fC, fun C2 nC2 => ?_⟩
              rw [← List.map_reverse]
              have s12 : Same H11 (upd H11 C2 (.lst (mx.reverse.map V.str))) := sn nC2
              have f12 : upd H11 C2 (.lst (mx.reverse.map V.str)) C2 = some (.lst (mx.reverse.map V.str)) := upd_same
              have nC2H : H C2 = none := new_back b11 hp11 nC2
              have nC2F : C2 ≠ Fo := Ne.symm (ne_of_none f11 nC2)
              generalize upd H11 C2 (.lst (mx.reverse.map V.str)) = H12 at s12 f12 ⊢
              have q := row_more (i := i) (s12 _ _ f11) (r11.same s12) g3 g4 g5 (s12 _ _ e11) nBF ((hp11.same s12).mono (show _ ≤ c + 30 + 30 * (i + 1) by omega)) (b11.trans (But.same s12)) nFH f12 nC2H nC2F (mx.reverse_perm.trans perm9)
              refine ⟨_, rfl, .inl ⟨rfl, _, SqL.of (s12 _ _ f11)⟩, _, rfl, Fo, as.map V.ref, .ref C2, rfl, rfl, s12 _ _ f11, small1000 (by rw [List.length_map, r11.len]; omega), ?_⟩
              exact ⟨_, _, _, _, as ++ [C2], rs ++ [mx.reverse], rfl, q⟩
      · have q := row_more (i := i) f5 r5 g3 g4 g5 e5 nBF (hp5.mono (show _ ≤ c + 30 + 30 * (i + 1) by omega)) b5 nFH hR nRH nRF pr
        refine ⟨_, rfl, .inl ⟨rfl, _, SqL.of f5⟩, _, rfl, Fo, as.map V.ref, .ref R, rfl, rfl, f5, small1000 (by rw [List.length_map, r5.len]; omega), ?_⟩
        exact ⟨_, _, _, _, as ++ [R], rs ++ [rr], rfl, q⟩
    · rintro σ H4 ⟨o6, o7, o8, o9, as, rs, rfl, g1, g2, g3, g4, g5, g6, g7, g8⟩
      exact ⟨_, rfl, k Fo as rs H4 g1 nFH g2 g3 (by omega) g5 (g7.mono (by omega)) g8⟩
end
end K02

set_option maxHeartbeats 4000000
namespace K02
open PySem PySem.Spec PyProof.Rows L2 G1
/-- a comprehension over a text, sign by sign -/
theorem lc_str {x : Str} {g : TG} {tt : TT} {te : TE} {vs : List Nat} {σ : L2.St} {H1 : Hp} {D : Addr} {Qd : Hp → Prop} (Pv : Nat → Hp → Prop) (h0 : Pv 0 (upd H1 D (.lst [])))
    (hs : ∀ i c H, x.cps[i]? = some c → Pv i H → g (.str ⟨#[c]⟩) (wipe σ vs) H fun σ2 H2 => wipe σ2 vs = wipe σ vs ∧ tt σ2 H2 fun b H3 =>
      if b = true then te σ2 H3 fun y H4 => ∃ acc, H4 D = some (.lst acc) ∧ acc.length < sizeLine ∧ Pv (i + 1) (upd H4 D (.lst (acc ++ [y]))) else Pv (i + 1) H3) (hd : ∀ H, Pv x.cps.size H → Qd H) :
    ∃ W : Nat → Nat → Hp → Prop, (∃ m, W 0 m (upd H1 D (.lst []))) ∧ ∀ i m H, W i m H →
      ((Its x).stop i H ∧ Qd H) ∨ ((Its x).go i H ∧ ∃ Nx : Hp → Prop, (∀ H', Nx H' → ∃ m', m' < m ∧ W (i + 1) m' H') ∧ ∀ y H', (Its x).yld i H y H' → g y (wipe σ vs) H' fun σ2 H2 => wipe σ2 vs = wipe σ vs ∧ tt σ2 H2 fun b H3 =>
        if b = true then te σ2 H3 fun y H4 => ∃ acc, H4 D = some (.lst acc) ∧ acc.length < sizeLine ∧ Nx (upd H4 D (.lst (acc ++ [y]))) else Nx H3) := by
  refine ⟨fun i m H => m = x.cps.size - i ∧ i ≤ x.cps.size ∧ Pv i H, ⟨x.cps.size, rfl, Nat.zero_le _, h0⟩, ?_⟩
  rintro i m H ⟨rfl, hi, p⟩
  by_cases lt : i < x.cps.size
  · refine .inr ⟨lt, Pv (i + 1), fun H' p' => ⟨x.cps.size - (i + 1), by omega, rfl, lt, p'⟩, fun y H' z => ?_⟩
    obtain ⟨rfl, c, hc, rfl⟩ := z
    exact hs i c H' hc p
  · refine .inl ⟨Nat.le_of_not_lt lt, hd H ?_⟩
    have e : i = x.cps.size := by omega
    rw [← e]
    exact p
def isLetter (c : Nat) : Bool := decide (97 ≤ c) && decide (c ≤ 122)
def isNm (z : Str) : Bool := decide (1 ≤ z.length) && (decide (z.length ≤ 8) && z.cps.toList.all isLetter)
theorem isNm_iff {z : Str} : isNm z = true ↔ Nm z := by
  unfold isNm Nm Letters
  rw [Bool.and_eq_true, Bool.and_eq_true, decide_eq_true_iff, decide_eq_true_iff, List.all_eq_true]
  unfold isLetter
  simp only [Bool.and_eq_true, decide_eq_true_iff]
/-- what is known of a value where it is asked whether it is a name -/
inductive Nmb (K : PySem.W.Frag) (H : Hp) : V → Bool → Prop
  | str {z : Str} : z.length ≤ 1000 → Nmb K H (.str z) (isNm z)
  | not {v : V} {T : String} : TyX K H v (.type T) → kitB T "str" = some false → Nmb K H v false
def spIsName (K : PySem.W.Frag) : Sp := fun vs H Q _ => ∃ (v : V) (b : Bool), vs = [v] ∧ Nmb K H v b ∧ ∀ H', Same H H' → Q (.bl b) H'
theorem sign_le {c : Nat} : (!decide ((⟨#[c]⟩ : Str).cps.toList < ("a" : Str).cps.toList)) = decide (97 ≤ c) := by
  have e : ((⟨#[c]⟩ : Str).cps.toList < ("a" : Str).cps.toList) ↔ c < 97 := by
    show ([c] : List Nat) < [97] ↔ _
    rw [List.cons_lt_cons_iff]
    simp
  by_cases h : c < 97
  · rw [decide_eq_true (e.mpr h), decide_eq_false (by omega)]
    rfl
  · rw [decide_eq_false (fun q => h (e.mp q)), decide_eq_true (by omega)]
    rfl
theorem sign_ge {c : Nat} : (!decide (("z" : Str).cps.toList < (⟨#[c]⟩ : Str).cps.toList)) = decide (c ≤ 122) := by
  have e : (("z" : Str).cps.toList < (⟨#[c]⟩ : Str).cps.toList) ↔ 122 < c := by
    show ([122] : List Nat) < [c] ↔ _
    rw [List.cons_lt_cons_iff]
    simp
  by_cases h : 122 < c
  · rw [decide_eq_true (e.mpr h), decide_eq_false (by omega)]
    rfl
  · rw [decide_eq_false (fun q => h (e.mp q)), decide_eq_true (by omega)]
    rfl
structure LibP (mg : Str → Option Value) : Prop where
  all : mg "all" = none
  isi : mg "isinstance" = none
  str : mg "str" = none
  list : mg "list" = none
  set : mg "set" = none
  sorted : mg "sorted" = none
  long : ∃ t, mg "LONGEST_NAME" = some (.int 8 t)
section
variable {P : Program} {w : World} {K : PySem.W.Frag} {mg : Str → Option Value} {base : Heap}
abbrev sIsName : Stmt := top 7
theorem scIsName : FnScope ["value", "sign"] ["value"] (defScope sIsName) := ⟨rfl, rfl, rfl, by decide +kernel, rfl, by decide +kernel, by decide +kernel⟩
theorem ok_isName {f : Addr} {fd : FuncData} (F : FnP K "is_name" sIsName f fd) (L : Lib K mg) (LP : LibP mg) : FnOk P w K mg base CX0 1 f fd ["value"] (spIsName K) := by
  obtain ⟨tL, hL⟩ := LP.long
  refine okN F scIsName (fun vs H Q E h => ?_) (fun cdv A outer s H vs Q E hr h => ?_)
  · obtain ⟨_, _, rfl, _⟩ := h
    rfl
  · obtain ⟨v, b, rfl, hv, k⟩ := h
    refine ⟨_, pss_cons (ps_if (pt_not (pt_val (pe_callB call_isi (by rfl) LP.isi (by decide +kernel) (pa_cons (pv 0) (pa_cons (pe_bltn (v := .ty "str") (by rfl) LP.str (by decide +kernel) rfl) pa_nil))))) (pss_one (ps_ret pe_bl)) pss_nil)
      (pss_one (ps_ret (pe_and (pe_chain op_le op_le pe_int (pe_callB call_len_str (by rfl) L.len PySem.boot_len (pa_cons (pv 0) pa_nil)) (pe_glob (v := .int 8) (by rfl) hL ⟨_, rfl⟩))
        (pe_one (pe_callB (cr_all rfl) (by rfl) LP.all (by decide +kernel) (pa_cons
          (pe_lc (own := [("sign", 1)]) (g := gName 1) (tt := tYes) (te := tChain (fun x y H Q => ∃ i j, x = .str i ∧ y = .str j ∧ Q (.bl (!decide (j.cps.toList < i.cps.toList))) H) (fun x y H Q => ∃ i j, x = .str i ∧ y = .str j ∧ Q (.bl (!decide (j.cps.toList < i.cps.toList))) H) (tC (.str "a")) (tVar 1) (tC (.str "z"))) rfl scIsName.nd (pi_str (pv 0))
            (blkOk_by (N := ["value", "sign"]) (sc := defScope sIsName) (by decide +kernel)) (fun _ _ _ _ _ => pg_name (i := 1) scIsName.nd rfl (Or.inl rfl)) (fun _ _ _ _ _ => pts_nil)
            (fun _ _ _ _ _ => pe_chain op_le_str op_le_str pe_str (pv 1) pe_str)) pa_nil)))))), ?_⟩
    cases hv with
    | @not _ T ty n =>
      refine ⟨_, rfl, v, .ty "str", .type T, .type "str", false, rfl, .ty _, ty, kit_ty n, false, rfl, iteT ?_⟩
      exact k H (Same.refl H)
    | @str z hz =>
      refine ⟨_, rfl, .str z, .ty "str", .type "str", .type "str", true, rfl, .ty _, ?_, kit_ty (by decide +kernel), true, rfl, iteF ?_⟩
      · exact .base (.str z)
      refine ⟨_, rfl, z, rfl, Nat.le_of_lt (small1000 hz), _, _, rfl, rfl, _, rfl, ?_⟩
      refine ite2 (fun h1 => ?_) (fun h1 => ?_)
      · refine ⟨_, _, rfl, rfl, _, rfl, ite2 (fun h2 => ?_) (fun h2 => ?_)⟩
        · refine ⟨_, rfl, z, rfl, fun D hD => lc_str (x := z) (fun i H' => H' D = some (.lst ((z.cps.toList.take i).map fun c => V.bl (isLetter c))) ∧ Same H H') ⟨upd_same, sn hD⟩ ?_ ?_⟩
          · rintro i c H' hc ⟨q1, q2⟩
            have add : ∀ b : Bool, b = isLetter c → ∃ acc, H' D = some (HO.lst acc) ∧ acc.length < sizeLine ∧ (fun (i : Nat) (H' : Hp) => H' D = some (.lst ((z.cps.toList.take i).map fun c => V.bl (isLetter c))) ∧ Same H H') (i + 1) (upd H' D (.lst (acc ++ [V.bl b]))) := fun b hb => by
              refine ⟨_, q1, ?_, ?_, fun b o e => ?_⟩
              · refine small1000 ?_
                rw [List.length_map]
                have := List.length_take_le' i z.cps.toList
                have e2 : z.cps.toList.length = z.length := by simp [Str.length]
                omega
              · have hc2 : z.cps.toList[i]? = some c := by rw [Array.getElem?_toList]; exact hc
                rw [upd_same, List.take_succ, hc2, List.map_append, hb]
                rfl
              · rw [upd_ne (ne_of_none e hD)]
                exact q2 _ _ e
            refine ⟨rfl, _, rfl, _, _, rfl, rfl, _, rfl, ite2 (fun l1 => ?_) (fun l1 => ?_)⟩
            · rw [sign_le] at l1
              refine ⟨_, _, rfl, rfl, ?_⟩
              rw [sign_ge]
              exact add _ (by unfold isLetter; rw [l1, Bool.true_and])
            · rw [sign_le] at l1
              exact add _ (by unfold isLetter; rw [Bool.eq_false_iff.mpr l1, Bool.false_and])
          · rintro H' ⟨q1, q2⟩
            refine ⟨D, z.cps.toList.map isLetter, rfl, SqL.of ?_, ?_⟩
            · rw [q1, List.take_of_length_le (by simp), List.map_map]
              rfl
            · rw [List.all_map]
              have e : isNm z = z.cps.toList.all (id ∘ isLetter) := by
                unfold isNm
                rw [decide_eq_true (show 1 ≤ z.length by have q := of_decide_eq_true h1; omega), decide_eq_true (show z.length ≤ 8 by have q := of_decide_eq_true h2; omega), Bool.true_and, Bool.true_and]
                rfl
              rw [← e]
              exact k H' q2
        · have e : isNm z = false := by
            unfold isNm
            rw [decide_eq_false (show ¬ z.length ≤ 8 by have q := of_decide_eq_false (Bool.eq_false_iff.mpr h2); omega), Bool.false_and, Bool.and_false]
          rw [e] at k
          exact k H (Same.refl H)
      · have e : isNm z = false := by
          unfold isNm
          rw [decide_eq_false (show ¬ 1 ≤ z.length by have q := of_decide_eq_false (Bool.eq_false_iff.mpr h1); omega), Bool.false_and]
        rw [e] at k
        exact ⟨false, rfl, iteF (k H (Same.refl H))⟩
end
end K02

set_option maxHeartbeats 4000000
namespace K02
open PySem PySem.Spec PyProof.Rows L2 G1
theorem TyX.same {K : PySem.W.Frag} {H H' : Hp} {v : V} {t : Value} (h : TyX K H v t) (s : Same H H') : TyX K H' v t := by
  cases h with
  | base h =>
    refine .base ?_
    cases h with
    | non => exact .non
    | bl x => exact .bl x
    | int x => exact .int x
    | str x => exact .str x
    | flt x => exact .flt x
    | lst e => exact .lst (s _ _ e)
    | frz e => exact .frz (s _ _ e)
    | tup e => exact .tup (s _ _ e)
    | dK e => exact .dK (s _ _ e)
    | dT e => exact .dT (s _ _ e)
    | ins e cl a b c d => exact .ins (s _ _ e) cl a b c d
  | byt b => exact .byt b
  | set e => exact .set (s _ _ e)
  | kList e c => exact .kList e c
  | kTuple e c => exact .kTuple e c
  | kDict e c => exact .kDict e c
  | fTuple e => exact .fTuple (s _ _ e)
  | fDict e => exact .fDict (s _ _ e)
theorem Nmb.same {K : PySem.W.Frag} {H H' : Hp} {v : V} {b : Bool} (h : Nmb K H v b) (s : Same H H') : Nmb K H' v b := by
  cases h with
  | str h => exact .str h
  | not t n => exact .not (TyX.same t s) n
inductive NmbL (K : PySem.W.Frag) (H : Hp) : List V → List Bool → Prop
  | nil : NmbL K H [] []
  | cons {v : V} {b : Bool} {vs : List V} {bs : List Bool} : Nmb K H v b → NmbL K H vs bs → NmbL K H (v :: vs) (b :: bs)
theorem NmbL.len {K : PySem.W.Frag} {H : Hp} {vs : List V} {bs : List Bool} (h : NmbL K H vs bs) : vs.length = bs.length := by
  induction h with
  | nil => rfl
  | cons _ _ ih => rw [List.length_cons, List.length_cons, ih]
theorem NmbL.same {K : PySem.W.Frag} {H H' : Hp} {vs : List V} {bs : List Bool} (h : NmbL K H vs bs) (s : Same H H') : NmbL K H' vs bs := by
  induction h with
  | nil => exact .nil
  | cons e _ ih => exact .cons (e.same s) ih
theorem NmbL.at {K : PySem.W.Frag} {H : Hp} {vs : List V} {bs : List Bool} (h : NmbL K H vs bs) : ∀ {i : Nat} {v : V}, vs[i]? = some v → ∃ b, bs[i]? = some b ∧ Nmb K H v b := by
  induction h with
  | nil => intro i v e; cases e
  | @cons v0 b0 vs bs h0 _ ih =>
    intro i v e
    match i, e with
    | 0, e =>
      cases e
      exact ⟨b0, rfl, h0⟩
    | i + 1, e => exact ih e
theorem NmbL.names {K : PySem.W.Frag} {H : Hp} {vs : List V} {bs : List Bool} (h : NmbL K H vs bs) (a : bs.all id = true) : ∃ zs : List Str, vs = zs.map V.str ∧ ∀ z ∈ zs, Nm z := by
  induction h with
  | nil => exact ⟨[], rfl, fun z hz => nomatch hz⟩
  | cons h0 _ ih =>
    rw [List.all_cons] at a
    obtain ⟨a1, a2⟩ := He.ba a
    obtain ⟨zs, rfl, hz⟩ := ih a2
    cases h0 with
    | @str z hl => exact ⟨z :: zs, rfl, fun y hy => by
        rcases List.mem_cons.mp hy with rfl | hy
        · exact isNm_iff.mp a1
        · exact hz y hy⟩
    | not _ _ => cases a1
theorem NmbL.ofNames {K : PySem.W.Frag} {H : Hp} {zs : List Str} (h : ∀ z ∈ zs, Nm z) : NmbL K H (zs.map V.str) (zs.map fun _ => true) := by
  induction zs with
  | nil => exact .nil
  | cons z zs ih =>
    have q := h z List.mem_cons_self
    have e := isNm_iff.mpr q
    have p : Nmb K H (.str z) (isNm z) := .str (by have := q.2.1; omega)
    rw [e] at p
    exact .cons p (ih fun y hy => h y (List.mem_cons_of_mem _ hy))
/-- what is told of it: no list, or a list with something in it that is no name; or names, and whether there are some, and no one twice -/
inductive Unl (K : PySem.W.Frag) (H : Hp) : V → Bool → Prop
  | no {v : V} {T : String} : TyX K H v (.type T) → kitB T "list" = some false → Unl K H v false
  | odd {a : Addr} {xs : List V} {bs : List Bool} : H a = some (.lst xs) → xs.length ≤ 100 → NmbL K H xs bs → bs.all id = false → Unl K H (.ref a) false
  | names {a : Addr} {zs : List Str} : H a = some (.lst (zs.map V.str)) → zs.length ≤ 100 → (∀ z ∈ zs, Nm z) → Unl K H (.ref a) (!zs.isEmpty && decide zs.Nodup)
theorem cnt_nodup (zs : List Str) : decide ((cntS zs zs.length : Int) = (zs.length : Int)) = decide zs.Nodup := by
  have q := cntS_full zs zs.length (Nat.le_refl _)
  rw [List.take_length] at q
  by_cases h : zs.Nodup
  · rw [decide_eq_true h, decide_eq_true (by have := q.mpr h; omega)]
  · rw [decide_eq_false h, decide_eq_false (fun e => h (q.mp (by omega)))]
def ndB (xs : List V) : Bool := decide ((xs.filterMap fun v => match v with | .str s => some s | _ => none).Nodup)
theorem nd_strs {zs : List Str} : ndB (zs.map V.str) = decide zs.Nodup := by
  unfold ndB
  rw [List.filterMap_map, show ((fun v => match v with | V.str s => some s | _ => none) ∘ V.str) = some from rfl, List.filterMap_some]
theorem unl_cases {K : PySem.W.Frag} {H : Hp} {v : V} {b : Bool} (h : Unl K H v b) : (∃ T, TyX K H v (.type T) ∧ kitB T "list" = some false ∧ b = false) ∨
    (∃ (a : Addr) (xs : List V) (bs : List Bool), v = .ref a ∧ H a = some (.lst xs) ∧ xs.length ≤ 100 ∧ NmbL K H xs bs ∧ b = (!xs.isEmpty && (bs.all id && ndB xs))) := by
  cases h with
  | @no _ T ty n => exact .inl ⟨T, ty, n, rfl⟩
  | @odd a xs bs h1 h2 h3 h4 => exact .inr ⟨a, xs, bs, rfl, h1, h2, h3, by rw [h4, Bool.false_and, Bool.and_false]⟩
  | @names a zs h1 h2 h3 =>
    refine .inr ⟨a, zs.map V.str, zs.map fun _ => true, rfl, h1, by rw [List.length_map]; exact h2, NmbL.ofNames h3, ?_⟩
    rw [nd_strs, List.all_map, show (zs.all (id ∘ fun _ => true)) = true from List.all_eq_true.mpr fun _ _ => rfl, Bool.true_and]
    cases zs <;> rfl
def spUnlike (K : PySem.W.Frag) : Sp := fun vs H Q _ => ∃ (v : V) (b : Bool), vs = [v] ∧ Unl K H v b ∧ ∀ H', Same H H' → Q (.bl b) H'
section
variable {P : Program} {w : World} {K : PySem.W.Frag} {mg : Str → Option Value} {base : Heap}
abbrev sUnlike : Stmt := top 8
theorem scUnlike : FnScope ["value", "name"] ["value"] (defScope sUnlike) := ⟨rfl, rfl, rfl, by decide +kernel, rfl, by decide +kernel, by decide +kernel⟩
theorem ok_unlike {f fN : Addr} {fd fdN : FuncData} (F : FnP K "are_unlike_names" sUnlike f fd) (L : Lib K mg) (LP : LibP mg) (FN : FnP K "is_name" sIsName fN fdN) (gN : mg "is_name" = some (.ref fN)) : FnOk P w K mg base CX0 2 f fd ["value"] (spUnlike K) := by
  have GN : FnOk P w K mg base CX0 1 fN fdN ["value"] (spIsName K) := ok_isName FN L LP
  have bN : Binds K fdN ["value"] [] := FN.bindsN fun _ _ _ _ _ _ us hl => match us, hl with | [_], _ => rfl
  refine okN F scUnlike (fun vs H Q E h => ?_) (fun cdv A outer s H vs Q E hr h => ?_)
  · obtain ⟨_, _, rfl, _⟩ := h
    rfl
  · obtain ⟨v, b, rfl, hv, k⟩ := h
    refine ⟨_, pss_cons (ps_if (PW.pt (pw_or (pt_not (pt_val (pe_callB call_isi (by rfl) LP.isi (by decide +kernel) (pa_cons (pv 0) (pa_cons (pe_bltn (v := .ty "list") (by rfl) LP.list (by decide +kernel) rfl) pa_nil)))))
        (pw_or1 (pt_not (pt_truth (pv 0) (by intro _; rfl)))))) (pss_one (ps_ret pe_bl)) pss_nil)
      (pss_one (ps_ret (pe_and (pe_callB (cr_all rfl) (by rfl) LP.all (by decide +kernel) (pa_cons
          (pe_lc (own := [("name", 1)]) (g := gName 1) (tt := tYes) (te := tCall (spIsName K) [] E0 (tCons (tVar 1) tNil)) rfl scUnlike.nd (pi_list (pv 0))
            (blkOk_by (N := ["value", "name"]) (sc := defScope sUnlike) (by decide +kernel)) (fun _ _ _ _ _ => pg_name (i := 1) scUnlike.nd rfl (Or.inl rfl)) (fun _ _ _ _ _ => pts_nil)
            (fun _ _ _ _ _ => pe_call GN hr (by rfl) gN FN.kp bN .nil pass0 (pa_cons (pv 1) pa_nil))) pa_nil))
        (pe_one (pe_cmpR op_eq (pe_lenStrs rfl (by rfl) L.len (by rfl) LP.set (pv 0)) (pe_callB call_len_seq (by rfl) L.len PySem.boot_len (pa_cons (pv 0) pa_nil)) (nomark _)))))), ?_⟩
    rcases unl_cases hv with ⟨T, ty, n, rfl⟩ | ⟨a, xs, bs, rfl, hH, hl, hb, rfl⟩
    · refine ⟨_, rfl, v, .ty "list", .type T, .type "list", false, rfl, .ty _, ty, kit_ty n, false, rfl, ?_⟩
      exact k H (Same.refl H)
    · refine ⟨_, rfl, .ref a, .ty "list", .type "list", .type "list", true, rfl, .ty _, .base (.lst hH), kit_ty (by decide +kernel), true, rfl, ?_⟩
      refine ⟨_, rfl, !xs.isEmpty, .inl ⟨xs, SqL.of hH, rfl⟩, ?_⟩
      cases xs with
      | nil => exact k H (Same.refl H)
      | cons x0 xs0 =>
        refine ⟨_, rfl, a, rfl, ⟨_, SqL.of hH⟩, fun D hD => lc_list (K := K) (a := a) (xs := x0 :: xs0) (fun i H' => H' D = some (.lst ((bs.take i).map V.bl)) ∧ Same H H') ⟨upd_same, sn hD⟩ (fun i H' _ h => SqL.of (h.2 _ _ hH)) ?_ ?_⟩
        · rintro i y H' hi ⟨q1, q2⟩
          obtain ⟨b1, hb1, nb⟩ := hb.at hi
          refine ⟨rfl, _, rfl, y, b1, rfl, nb.same q2, fun H2 s2 => ⟨_, s2 _ _ q1, ?_, ?_, fun c o e => ?_⟩⟩
          · refine small1000 ?_
            rw [List.length_map]
            have := List.length_take_le' i bs
            have := hb.len
            omega
          · rw [upd_same, List.take_succ, hb1, List.map_append]
            rfl
          · rw [upd_ne (ne_of_none e hD)]
            exact s2 _ _ (q2 _ _ e)
        · rintro H' ⟨q1, q2⟩
          rw [hb.len, List.take_length] at q1
          refine ⟨D, bs, rfl, SqL.of q1, _, rfl, ?_⟩
          cases hall : bs.all id with
          | false =>
            rw [hall] at k
            exact iteF (k H' q2)
          | true =>
            rw [hall] at k
            obtain ⟨zs, ez, hz⟩ := hb.names hall
            have hH' : H' a = some (.lst (zs.map V.str)) := by
              rw [← ez]
              exact q2 _ _ hH
            have lz : zs.length ≤ 100 := by
              rw [ez, List.length_map] at hl
              exact hl
            refine iteT ⟨_, rfl, a, zs, rfl, SqL.of hH', by omega, _, rfl, a, _, rfl, .inl (SqL.of hH'), rfl, ?_⟩
            have e : decide (V.int (cntS zs zs.length) = V.int (((zs.map V.str).length : Nat) : Int)) = ndB (x0 :: xs0) := by
              rw [ez, nd_strs, ← cnt_nodup, List.length_map]
              by_cases q : ((cntS zs zs.length : Int) = (zs.length : Int))
              · rw [decide_eq_true q, q]
                exact decide_eq_true rfl
              · rw [decide_eq_false q]
                exact decide_eq_false fun z => q (V.int.inj z)
            show Q (.bl (decide (V.int (cntS zs zs.length) = V.int (((zs.map V.str).length : Nat) : Int)))) H'
            rw [e]
            exact k H' q2
end
end K02

set_option maxHeartbeats 4000000
namespace K02
open PySem PySem.Spec PyProof.Rows L2 G1
/-- what may stand in a row: a text, or something that is none -/
inductive RIt (K : PySem.W.Frag) (H : Hp) : V → Option Str → Prop
  | str (z : Str) : RIt K H (.str z) (some z)
  | non : RIt K H .non none
  | bl (b : Bool) : RIt K H (.bl b) none
  | int (i : Int) : RIt K H (.int i) none
  | lst {a : Addr} {ys : List V} : H a = some (.lst ys) → RIt K H (.ref a) none
  | tup {a : Addr} {ys : List V} : H a = some (.tup ys) → RIt K H (.ref a) none
  | dK {a : Addr} {kvs : List (Key × V)} : H a = some (.dK kvs) → RIt K H (.ref a) none
theorem RIt.same {K : PySem.W.Frag} {H H' : Hp} {v : V} {o : Option Str} (h : RIt K H v o) (s : Same H H') : RIt K H' v o := by
  cases h with
  | str z => exact .str z
  | non => exact .non
  | bl b => exact .bl b
  | int i => exact .int i
  | lst e => exact .lst (s _ _ e)
  | tup e => exact .tup (s _ _ e)
  | dK e => exact .dK (s _ _ e)
theorem RIt.ty {K : PySem.W.Frag} {H : Hp} {v : V} {o : Option Str} (h : RIt K H v o) : ∃ T : String, TyX K H v (.type T) ∧ kitB T "str" = some o.isSome := by
  cases h with
  | str z => exact ⟨"str", .base (.str z), show kitB "str" "str" = some true by decide +kernel⟩
  | non => exact ⟨"NoneType", .base .non, by decide +kernel⟩
  | bl b => exact ⟨"bool", .base (.bl b), by decide +kernel⟩
  | int i => exact ⟨"int", .base (.int i), by decide +kernel⟩
  | lst e => exact ⟨"list", .base (.lst e), by decide +kernel⟩
  | tup e => exact ⟨"tuple", .base (.tup e), by decide +kernel⟩
  | dK e => exact ⟨"dict", .base (.dK e), by decide +kernel⟩
inductive RItL (K : PySem.W.Frag) (H : Hp) : List V → List (Option Str) → Prop
  | nil : RItL K H [] []
  | cons {v : V} {o : Option Str} {vs : List V} {os : List (Option Str)} : RIt K H v o → RItL K H vs os → RItL K H (v :: vs) (o :: os)
theorem RItL.len {K : PySem.W.Frag} {H : Hp} {vs : List V} {os : List (Option Str)} (h : RItL K H vs os) : vs.length = os.length := by
  induction h with
  | nil => rfl
  | cons _ _ ih => rw [List.length_cons, List.length_cons, ih]
theorem RItL.same {K : PySem.W.Frag} {H H' : Hp} {vs : List V} {os : List (Option Str)} (h : RItL K H vs os) (s : Same H H') : RItL K H' vs os := by
  induction h with
  | nil => exact .nil
  | cons e _ ih => exact .cons (e.same s) ih
theorem RItL.at {K : PySem.W.Frag} {H : Hp} {vs : List V} {os : List (Option Str)} (h : RItL K H vs os) : ∀ {i : Nat} {v : V}, vs[i]? = some v → ∃ o, os[i]? = some o ∧ RIt K H v o := by
  induction h with
  | nil => intro i v e; cases e
  | @cons v0 o0 vs os h0 _ ih =>
    intro i v e
    match i, e with
    | 0, e =>
      cases e
      exact ⟨o0, rfl, h0⟩
    | i + 1, e => exact ih e
theorem RItL.strs {K : PySem.W.Frag} {H : Hp} {vs : List V} {os : List (Option Str)} (h : RItL K H vs os) (a : os.all Option.isSome = true) : ∃ zs : List Str, vs = zs.map V.str := by
  induction h with
  | nil => exact ⟨[], rfl⟩
  | cons h0 _ ih =>
    rw [List.all_cons] at a
    obtain ⟨a1, a2⟩ := He.ba a
    obtain ⟨zs, rfl⟩ := ih a2
    cases h0 with
    | str z => exact ⟨z :: zs, rfl⟩
    | _ => cases a1
theorem RItL.all_in {K : PySem.W.Frag} {H : Hp} {zs : List Str} {os : List (Option Str)} (h : RItL K H (zs.map V.str) os) : os.all Option.isSome = true := by
  induction zs generalizing os with
  | nil => cases h; rfl
  | cons z zs ih =>
    cases h with
    | cons h0 ht =>
      cases h0
      rw [List.all_cons, ih ht]
      rfl
/-- a row, or something that is none; whether it is one of xs -/
inductive RowV (K : PySem.W.Frag) (H : Hp) (xs : List Str) : V → Bool → Prop
  | no {v : V} {T : String} : TyX K H v (.type T) → kitB T "list" = some false → RowV K H xs v false
  | lst {a : Addr} {vs : List V} {os : List (Option Str)} {b : Bool} : H a = some (.lst vs) → vs.length ≤ 60 → RItL K H vs os → (b = true ↔ ∃ zs : List Str, vs = zs.map V.str ∧ zs.Perm xs) → RowV K H xs (.ref a) b
theorem RowV.same {K : PySem.W.Frag} {H H' : Hp} {xs : List Str} {v : V} {b : Bool} (h : RowV K H xs v b) (s : Same H H') : RowV K H' xs v b := by
  cases h with
  | no t n => exact .no (TyX.same t s) n
  | lst h1 h2 h3 h4 => exact .lst (s _ _ h1) h2 (h3.same s) h4
def spIsRow (K : PySem.W.Frag) : Sp := fun vs H Q _ => ∃ (n : Addr) (xs : List Str) (v : V) (b : Bool), vs = [.ref n, v] ∧ SqL K H n (xs.map V.str) ∧ sortedS xs = true ∧ RowV K H xs v b ∧ ∀ H', Same H H' → Q (.bl b) H'
section
variable {P : Program} {w : World} {K : PySem.W.Frag} {mg : Str → Option Value} {base : Heap}
abbrev sIsRow : Stmt := top 9
theorem scIsRow : FnScope ["entries", "value", "name"] ["entries", "value"] (defScope sIsRow) := ⟨rfl, rfl, rfl, by decide +kernel, rfl, by decide +kernel, by decide +kernel⟩
theorem ok_isRow {f : Addr} {fd : FuncData} (F : FnP K "is_row" sIsRow f fd) (L : Lib K mg) (LP : LibP mg) : FnOk P w K mg base CX0 1 f fd ["entries", "value"] (spIsRow K) := by
  refine okN F scIsRow (fun vs H Q E h => ?_) (fun cdv A outer s H vs Q E hr h => ?_)
  · obtain ⟨_, _, _, _, rfl, _⟩ := h
    rfl
  · obtain ⟨n, xs, v, b, rfl, hn, so, hv, k⟩ := h
    have hu := hr.units
    have hu1 : (A.deeper (envOfC "is_row" (defScope sIsRow) s.heap.objs.size f cdv)).units + (0 + 1) < cLine := by omega
    refine ⟨_, pss_cons (ps_if (PW.pt (pw_or (pt_not (pt_val (pe_callB call_isi (by rfl) LP.isi (by decide +kernel) (pa_cons (pv 1) (pa_cons (pe_bltn (v := .ty "list") (by rfl) LP.list (by decide +kernel) rfl) pa_nil)))))
        (pw_or1 (pt_not (pt_val (pe_callB (cr_all rfl) (by rfl) LP.all (by decide +kernel) (pa_cons
          (pe_lc (own := [("name", 2)]) (g := gName 2) (tt := tYes) (te := tCB (rIsi K) (tCons (tVar 2) (tCons (tC (.ty "str")) tNil))) rfl scIsRow.nd (pi_list (pv 1))
            (blkOk_by (N := ["entries", "value", "name"]) (sc := defScope sIsRow) (by decide +kernel)) (fun _ _ _ _ _ => pg_name (i := 2) scIsRow.nd rfl (Or.inl rfl)) (fun _ _ _ _ _ => pts_nil)
            (fun _ _ _ _ _ => pe_callB call_isi (by rfl) LP.isi (by decide +kernel) (pa_cons (pv 2) (pa_cons (pe_bltn (v := .ty "str") (by rfl) LP.str (by decide +kernel) rfl) pa_nil)))) pa_nil))))))) (pss_one (ps_ret pe_bl)) pss_nil)
      (pss_one (ps_ret (pe_cmpR (op_eqW (n := 0) hu1) (pe_callB cr_sortedS (by rfl) LP.sorted (by decide +kernel) (pa_cons (pv 1) pa_nil)) (pv 0) (nomark _)))), ?_⟩
    cases hv with
    | @no _ T ty nk =>
      refine ⟨_, rfl, v, .ty "list", .type T, .type "list", false, rfl, .ty _, ty, kit_ty nk, false, rfl, ?_⟩
      exact k H (Same.refl H)
    | @lst a vs os b hH hl ho hb =>
      refine ⟨_, rfl, .ref a, .ty "list", .type "list", .type "list", true, rfl, .ty _, .base (.lst hH), kit_ty (by decide +kernel), true, rfl, ?_⟩
      refine ⟨_, rfl, a, rfl, ⟨_, SqL.of hH⟩, fun D hD => lc_list (K := K) (a := a) (xs := vs) (fun i H' => H' D = some (.lst (((os.map Option.isSome).take i).map V.bl)) ∧ Same H H') ⟨upd_same, sn hD⟩ (fun i H' _ h => SqL.of (h.2 _ _ hH)) ?_ ?_⟩
      · rintro i y H' hi ⟨q1, q2⟩
        obtain ⟨o, ho1, r⟩ := ho.at hi
        obtain ⟨T, ty1, kb1⟩ := (r.same q2).ty
        refine ⟨rfl, _, rfl, y, .ty "str", .type T, .type "str", o.isSome, rfl, .ty _, ty1, kit_ty kb1, _, q1, ?_, ?_, fun c o' e => ?_⟩
        · refine small1000 ?_
          rw [List.length_map]
          have := List.length_take_le' i (os.map Option.isSome)
          rw [List.length_map] at this
          have := ho.len
          omega
        · have e2 : (os.map Option.isSome)[i]? = some o.isSome := by rw [List.getElem?_map, ho1]; rfl
          rw [upd_same, List.take_succ, e2, List.map_append]
          rfl
        · rw [upd_ne (ne_of_none e hD)]
          exact q2 _ _ e
      · rintro H' ⟨q1, q2⟩
        rw [ho.len, List.take_of_length_le (by rw [List.length_map]; exact Nat.le_refl _)] at q1
        refine ⟨D, os.map Option.isSome, rfl, SqL.of q1, _, rfl, ?_⟩
        have e0 : (os.map Option.isSome).all id = os.all Option.isSome := by rw [List.all_map]; rfl
        rw [e0]
        cases hall : os.all Option.isSome with
        | false =>
          have bf : b = false := by
            rw [Bool.eq_false_iff]
            intro bt
            obtain ⟨zs, rfl, p⟩ := hb.mp bt
            rw [ho.all_in] at hall
            cases hall
          rw [bf] at k
          exact k H' q2
        | true =>
          obtain ⟨zs, rfl⟩ := ho.strs hall
          rw [List.length_map] at hl
          refine ⟨_, rfl, a, zs, rfl, SqL.of (q2 _ _ hH), by omega, fun ys D2 p2 so2 n2 => ?_⟩
          have s3 : Same H' (upd H' D2 (.lst (ys.map V.str))) := sn n2
          refine ⟨_, rfl, _, lists_strs (SqL.of upd_same) ((q2.trans s3).seq hn), ?_⟩
          have e : decide (ys = xs) = b := by
            cases hbb : b with
            | true =>
              obtain ⟨zs2, e3, p3⟩ := hb.mp hbb
              rw [map_str_inj e3] at p2
              exact decide_eq_true (sorted_uniq so2 so (p2.trans p3))
            | false =>
              refine decide_eq_false fun e3 => ?_
              rw [hb.mpr ⟨zs, rfl, (e3 ▸ p2).symm⟩] at hbb
              cases hbb
          rw [e]
          exact k _ (q2.trans s3)
end
end K02

set_option maxHeartbeats 4000000
namespace K02
open PySem PySem.Spec PyProof.Rows L2 G1
abbrev ga (K : PySem.W.Frag) (x : Str) : Addr := He.ga K x
def iPs : List Str := ["self", "value"]
/-- an error's class and its __init__ -/
structure ErrC (P : Program) (w : World) (K : PySem.W.Frag) (mg : Str → Option Value) (base : Heap) (x : Str) : Prop where
  ex : ∃ (fI : Addr) (fd : FuncData), EC K (ga K x) fI ∧ FnOk P w K mg base CX0 1 fI fd iPs (spE (ga K x)) ∧ Binds K fd iPs []
  gl : mg x = some (.ref (ga K x))
/-- raise x(e): what is asked -/
def tRaise (C : Addr) (W : WX) (te : TE) : TS := fun _ σ H => te σ H fun v H1 => ∀ (d : Addr) (H' : Hp), Same H1 H' → H1 d = none → H' d = some (.xd [("value", v)]) → W (.ref C) (some d) σ H'
/-- the way on may be made weaker -/
def tClo (te : TE) : TE := fun σ H Q => ∃ Q0 : VK, te σ H Q0 ∧ ∀ v H1, Q0 v H1 → Q v H1
theorem pe_clo {X : Cx} {e : Expr} {te : TE} (he : PE X e te) : PE X e (tClo te) :=
  ⟨fun pins s σ H Q I h => by
    obtain ⟨Q0, h0, k⟩ := h
    exact thn (he.run pins s σ H Q0 I h0) fun u s1 z => by
      obtain ⟨v, H1, I1, r, q⟩ := z
      exact ⟨v, H1, I1, r, k v H1 q⟩⟩
theorem ps_raiseV {X : Cx} {W : WX} {x : Str} {e : Expr} {te : TE} {p pos pos2 : Pos} (hc : X.calm = true) (R : ErrC X.prog X.w X.K X.mg X.base x) (hr : Room 2 X.A) (tk : Takes X W) (hg : Gl X x) (he : PE X e te)
    (hdb : (x == ("__debug__" : Str)) = false := by decide) (h1 : starEach (e :: []) X.env = (false, eval e X.env) :: starEach [] X.env := by rfl) (hpl : (backTo pos (starEach [] X.env)).any (·.1) = false := by rfl) :
    PS X (.Raise (some (.Call (.Name x p) [e] [] pos)) none pos2) (tRaise (ga X.K x) W te) := by
  obtain ⟨fI, fd, E, F, b⟩ := R.ex
  have q := ps_raise (W := W) (pos := pos2) hc tk (pmk_oex (p := p) (pos := pos) E.t E.iC E.tI F hr b .nil pass0 hg R.gl (pa_cons (pe_clo he) pa_nil h1) hdb h1 hpl)
  refine ⟨fun pins s σ H D I h => q.run pins s σ H D I ⟨_, h, fun v H1 k => ⟨(by decide : 1 ≤ 1000), fun a na => ?_⟩⟩⟩
  refine ⟨a, v, rfl, upd_same, fun d nd nda => ⟨rfl, d, [("value", v)], upd_same, ?_, ?_, ?_⟩⟩
  · rw [upd_ne nda]
    exact upd_same
  · rw [upd_ne nda] at nd
    exact nd
  · refine k d _ (fun c o e => ?_) ?_ upd_same
    · have nca : c ≠ a := ne_of_none e na
      have ncd : c ≠ d := fun z => by
        rw [z] at e
        rw [upd_ne nda, e] at nd
        cases nd
      rw [upd_ne ncd, del_ne nca, upd_ne nca, upd_ne ncd, upd_ne nca]
      exact e
    · rw [upd_ne nda] at nd
      exact nd
def spChkE (K : PySem.W.Frag) : Sp := fun vs H Q E => ∃ (v : V) (b : Bool), vs = [v] ∧ Unl K H v b ∧ (b = true → ∀ H', Same H H' → Q .non H') ∧
  (b = false → ∀ (d : Addr) (H' : Hp), Same H H' → H d = none → H' d = some (.xd [("value", v)]) → E (.ref (ga K "InvalidEntries")) (some d) H')
section
variable {P : Program} {w : World} {K : PySem.W.Frag} {mg : Str → Option Value} {base : Heap}
abbrev sChkE : Stmt := top 11
theorem scChkE : FnScope ["entries"] ["entries"] (defScope sChkE) := ⟨rfl, rfl, rfl, by decide +kernel, rfl, by decide +kernel, by decide +kernel⟩
theorem ok_chkE {f fU : Addr} {fd fdU : FuncData} (F : FnP K "check_entries" sChkE f fd) (R : ErrC P w K mg base "InvalidEntries") (FU : FnP K "are_unlike_names" sUnlike fU fdU) (gU : mg "are_unlike_names" = some (.ref fU))
    (GU : FnOk P w K mg base CX0 2 fU fdU ["value"] (spUnlike K)) : FnOk P w K mg base (L2.CX P w) 3 f fd ["entries"] (spChkE K) := by
  have bU : Binds K fdU ["value"] [] := FU.bindsN fun _ _ _ _ _ _ us hl => match us, hl with | [_], _ => rfl
  refine F.ok scChkE (fun vs H Q E h => ?_) (fun cdv A outer s H vs Q E hr h => ?_)
  · obtain ⟨_, _, rfl, _⟩ := h
    rfl
  · obtain ⟨v, b, rfl, hv, k1, k2⟩ := h
    refine ⟨_, pss_one (ps_if (pt_not (pt_val (pe_call GU hr (by rfl) gU FU.kp bU .nil pass0 (pa_cons (pv 0) pa_nil)))) (pss_one (ps_raiseV rfl R hr (takes_of rfl rfl rfl rfl) (by rfl) (pv 0))) pss_nil), ?_⟩
    refine ⟨_, rfl, v, b, rfl, hv, fun H1 s1 => ⟨_, rfl, ?_⟩⟩
    cases b with
    | true => exact k1 rfl H1 s1
    | false => exact ⟨_, rfl, fun d H' s2 nd hd => k2 rfl d H' (s1.trans s2) (s1.free nd) hd⟩
end
end K02

set_option maxHeartbeats 4000000
namespace K02
open PySem PySem.Spec PyProof.Rows L2 G1
inductive RowVL (K : PySem.W.Frag) (H : Hp) (xs : List Str) : List V → List Bool → Prop
  | nil : RowVL K H xs [] []
  | cons {v : V} {b : Bool} {vs : List V} {bs : List Bool} : RowV K H xs v b → RowVL K H xs vs bs → RowVL K H xs (v :: vs) (b :: bs)
theorem RowVL.len {K : PySem.W.Frag} {H : Hp} {xs : List Str} {vs : List V} {bs : List Bool} (h : RowVL K H xs vs bs) : vs.length = bs.length := by
  induction h with
  | nil => rfl
  | cons _ _ ih => rw [List.length_cons, List.length_cons, ih]
theorem RowVL.same {K : PySem.W.Frag} {H H' : Hp} {xs : List Str} {vs : List V} {bs : List Bool} (h : RowVL K H xs vs bs) (s : Same H H') : RowVL K H' xs vs bs := by
  induction h with
  | nil => exact .nil
  | cons e _ ih => exact .cons (e.same s) ih
theorem RowVL.at {K : PySem.W.Frag} {H : Hp} {xs : List Str} {vs : List V} {bs : List Bool} (h : RowVL K H xs vs bs) : ∀ {i : Nat} {v : V}, vs[i]? = some v → ∃ b, bs[i]? = some b ∧ RowV K H xs v b := by
  induction h with
  | nil => intro i v e; cases e
  | @cons v0 b0 vs bs h0 _ ih =>
    intro i v e
    match i, e with
    | 0, e =>
      cases e
      exact ⟨b0, rfl, h0⟩
    | i + 1, e => exact ih e
/-- a list of rows of xs, or something that is none -/
inductive RowsV (K : PySem.W.Frag) (H : Hp) (xs : List Str) : V → Bool → Prop
  | no {v : V} {T : String} : TyX K H v (.type T) → kitB T "list" = some false → RowsV K H xs v false
  | lst {a : Addr} {vs : List V} {bs : List Bool} : H a = some (.lst vs) → vs.length ≤ 60 → RowVL K H xs vs bs → RowsV K H xs (.ref a) (!vs.isEmpty && bs.all id)
theorem RowsV.same {K : PySem.W.Frag} {H H' : Hp} {xs : List Str} {v : V} {b : Bool} (h : RowsV K H xs v b) (s : Same H H') : RowsV K H' xs v b := by
  cases h with
  | no t n => exact .no (TyX.same t s) n
  | lst h1 h2 h3 => exact .lst (s _ _ h1) h2 (h3.same s)
def spChkR (K : PySem.W.Frag) : Sp := fun vs H Q E => ∃ (n : Addr) (xs : List Str) (v : V) (b : Bool), vs = [.ref n, v] ∧ SqL K H n (xs.map V.str) ∧ sortedS xs = true ∧ RowsV K H xs v b ∧ (b = true → ∀ H', Same H H' → Q .non H') ∧
  (b = false → ∀ (d : Addr) (H' : Hp), Same H H' → H d = none → H' d = some (.xd [("value", v)]) → E (.ref (ga K "InvalidRows")) (some d) H')
/-- whether all are rows -/
def spAreR (K : PySem.W.Frag) : Sp := fun vs H Q _ => ∃ (n : Addr) (xs : List Str) (v : V) (b : Bool), vs = [.ref n, v] ∧ SqL K H n (xs.map V.str) ∧ sortedS xs = true ∧ RowsV K H xs v b ∧
  ∀ (r : Bool) (H' : Hp), Same H H' → (r = false → b = false) → (r = true → ∃ (a : Addr) (vs : List V), v = .ref a ∧ H a = some (.lst vs) ∧ b = !vs.isEmpty) → Q (.bl r) H'
section
variable {P : Program} {w : World} {K : PySem.W.Frag} {mg : Str → Option Value} {base : Heap}
abbrev sAreR : Stmt := top 10
theorem scAreR : FnScope ["entries", "value", "row"] ["entries", "value"] (defScope sAreR) := ⟨rfl, rfl, rfl, by decide +kernel, rfl, by decide +kernel, by decide +kernel⟩
theorem ok_areR {f fR : Addr} {fd fdR : FuncData} (F : FnP K "are_rows" sAreR f fd) (L : Lib K mg) (LP : LibP mg) (FR : FnP K "is_row" sIsRow fR fdR) (gR : mg "is_row" = some (.ref fR))
    (GR : FnOk P w K mg base CX0 1 fR fdR ["entries", "value"] (spIsRow K)) : FnOk P w K mg base CX0 2 f fd ["entries", "value"] (spAreR K) := by
  have bR : Binds K fdR ["entries", "value"] [] := FR.bindsN fun _ _ _ _ _ _ us hl => match us, hl with | [_, _], _ => rfl
  refine okN F scAreR (fun vs H Q E h => ?_) (fun cdv A outer s H vs Q E hr h => ?_)
  · obtain ⟨_, _, _, _, rfl, _⟩ := h
    rfl
  · obtain ⟨n, xs, v, b, rfl, hn, so, hv, k⟩ := h
    refine ⟨_, pss_one (ps_ret (pe_and (pe_callB call_isi (by rfl) LP.isi (by decide +kernel) (pa_cons (pv 1) (pa_cons (pe_bltn (v := .ty "list") (by rfl) LP.list (by decide +kernel) rfl) pa_nil)))
        (pe_one (pe_callB (cr_all rfl) (by rfl) LP.all (by decide +kernel) (pa_cons
          (pe_lc (own := [("row", 2)]) (g := gName 2) (tt := tYes) (te := tCall (spIsRow K) [] E0 (tCons (tVar 0) (tCons (tVar 2) tNil))) rfl scAreR.nd (pi_list (pv 1))
            (blkOk_by (N := ["entries", "value", "row"]) (sc := defScope sAreR) (by decide +kernel)) (fun _ _ _ _ _ => pg_name (i := 2) scAreR.nd rfl (Or.inl rfl)) (fun _ _ _ _ _ => pts_nil)
            (fun _ _ _ _ _ => pe_call GR hr (by rfl) gR FR.kp bR .nil pass0 (pa_cons (pv 0) (pa_cons (pv 2) pa_nil)))) pa_nil))))), ?_⟩
    cases hv with
    | @no _ T ty nk =>
      refine ⟨_, rfl, v, .ty "list", .type T, .type "list", false, rfl, .ty _, ty, kit_ty nk, false, rfl, iteF ?_⟩
      exact k false H (Same.refl H) (fun _ => rfl) fun q => nomatch q
    | @lst a vs bs hH hl hb =>
      refine ⟨_, rfl, .ref a, .ty "list", .type "list", .type "list", true, rfl, .ty _, .base (.lst hH), kit_ty (by decide +kernel), true, rfl, iteT ?_⟩
      refine ⟨_, rfl, a, rfl, ⟨_, SqL.of hH⟩, fun D hD => lc_list (K := K) (a := a) (xs := vs) (fun i H' => H' D = some (.lst ((bs.take i).map V.bl)) ∧ Same H H') ⟨upd_same, sn hD⟩ (fun i H' _ h => SqL.of (h.2 _ _ hH)) ?_ ?_⟩
      · rintro i y H' hi ⟨q1, q2⟩
        obtain ⟨b1, hb1, nb⟩ := hb.at hi
        refine ⟨rfl, _, rfl, _, rfl, n, xs, y, b1, rfl, q2.seq hn, so, nb.same q2, fun H2 s2 => ⟨_, s2 _ _ q1, ?_, ?_, fun c o e => ?_⟩⟩
        · refine small1000 ?_
          rw [List.length_map]
          have := List.length_take_le' i bs
          have := hb.len
          omega
        · rw [upd_same, List.take_succ, hb1, List.map_append]
          rfl
        · rw [upd_ne (ne_of_none e hD)]
          exact s2 _ _ (q2 _ _ e)
      · rintro H' ⟨q1, q2⟩
        rw [hb.len, List.take_length] at q1
        refine ⟨D, bs, rfl, SqL.of q1, ?_⟩
        refine k _ H' q2 (fun q => ?_) (fun q => ⟨a, vs, rfl, hH, ?_⟩)
        · rw [q, Bool.and_false]
        · rw [q, Bool.and_true]
abbrev sChkR : Stmt := top 12
theorem scChkR : FnScope ["entries", "rows"] ["entries", "rows"] (defScope sChkR) := ⟨rfl, rfl, rfl, by decide +kernel, rfl, by decide +kernel, by decide +kernel⟩
theorem ok_chkR {f fA : Addr} {fd fdA : FuncData} (F : FnP K "check_rows" sChkR f fd) (R : ErrC P w K mg base "InvalidRows") (FA : FnP K "are_rows" sAreR fA fdA) (gA : mg "are_rows" = some (.ref fA))
    (GA : FnOk P w K mg base CX0 2 fA fdA ["entries", "value"] (spAreR K)) : FnOk P w K mg base (L2.CX P w) 3 f fd ["entries", "rows"] (spChkR K) := by
  have bA : Binds K fdA ["entries", "value"] [] := FA.bindsN fun _ _ _ _ _ _ us hl => match us, hl with | [_, _], _ => rfl
  refine F.ok scChkR (fun vs H Q E h => ?_) (fun cdv A outer s H vs Q E hr h => ?_)
  · obtain ⟨_, _, _, _, rfl, _⟩ := h
    rfl
  · obtain ⟨n, xs, v, b, rfl, hn, so, hv, k1, k2⟩ := h
    refine ⟨_, pss_one (ps_if (PW.pt (pw_or (pt_not (pt_val (pe_call GA hr (by rfl) gA FA.kp bA .nil pass0 (pa_cons (pv 0) (pa_cons (pv 1) pa_nil)))))
        (pw_or1 (pt_not (pt_truth (pv 1) (by intro _; rfl)))))) (pss_one (ps_raiseV rfl R hr (takes_of rfl rfl rfl rfl) (by rfl) (pv 1))) pss_nil), ?_⟩
    refine ⟨_, rfl, _, rfl, n, xs, v, b, rfl, hn, so, hv, fun r H1 s1 rf rt => ?_⟩
    cases r with
    | false => exact ⟨_, rfl, _, rfl, fun d H' s2 nd hd => k2 (rf rfl) d H' (s1.trans s2) (s1.free nd) hd⟩
    | true =>
      obtain ⟨a, vs, rfl, hH, eb⟩ := rt rfl
      refine ⟨_, rfl, _, rfl, !vs.isEmpty, .inl ⟨vs, SqL.of (s1 _ _ hH), rfl⟩, ?_⟩
      cases vs with
      | nil => exact ⟨_, rfl, fun d H' s2 nd hd => k2 eb d H' (s1.trans s2) (s1.free nd) hd⟩
      | cons x0 xs0 => exact k1 eb H1 s1
end
end K02

set_option maxHeartbeats 4000000
namespace K02
open PySem PySem.Spec PyProof.Rows L2 G1
def methS (j : Nat) : Stmt := match top 14 with
  | .ClassDef _ _ _ body .. => body.getD j (.Pass ⟨0, 0, 0, 0⟩)
  | s => s
abbrev FnM (K : PySem.W.Frag) (x q : Str) (st : Stmt) (f : Addr) (fd : FuncData) : Prop := FunD K x q (defArgs st) (defBody st) (defScope st) [] [] f fd
/-- the class Panel -/
structure PanC (K : PySem.W.Frag) (C : Addr) : Prop where
  cls : Cls K C
  nE : NoAttr K C "_entries"
  nR : NoAttr K C "_rows"
theorem RowsAt.at {H : Hp} {as : List Addr} {rs : List (List Str)} (h : RowsAt H as rs) : ∀ {i : Nat} {c : Addr}, as[i]? = some c → ∃ ws, rs[i]? = some ws ∧ H c = some (.lst (ws.map V.str)) := by
  induction h with
  | nil => intro i c e; cases e
  | @cons a0 r0 as rs h0 _ ih =>
    intro i c e
    match i, e with
    | 0, e =>
      cases e
      exact ⟨r0, rfl, h0⟩
    | i + 1, e => exact ih e
theorem rows_of_all {K : PySem.W.Frag} {H : Hp} {xs : List Str} {vs : List V} {bs : List Bool} (h : RowVL K H xs vs bs) (a : bs.all id = true) : ∃ (as : List Addr) (rs : List (List Str)), vs = as.map V.ref ∧ RowsAt H as rs ∧ ∀ r ∈ rs, r.Perm xs := by
  induction h with
  | nil => exact ⟨[], [], rfl, .nil, fun r hr => nomatch hr⟩
  | cons h0 _ ih =>
    rw [List.all_cons] at a
    obtain ⟨a1, a2⟩ := He.ba a
    obtain ⟨as, rs, rfl, h1, h2⟩ := ih a2
    cases h0 with
    | no _ _ => cases a1
    | @lst c ws os b e1 e2 e3 e4 =>
      obtain ⟨zs, rfl, p⟩ := e4.mp a1
      exact ⟨c :: as, zs :: rs, rfl, .cons e1 h1, fun r hr => by
        rcases List.mem_cons.mp hr with rfl | hr
        · exact p
        · exact h2 r hr⟩
def spInit (K : PySem.W.Frag) (C : Addr) : Sp := fun vs H Q E => ∃ (a dx : Addr) (ve vr : V) (b : Bool), vs = [.ref a, ve, vr] ∧ H a = some (.ins C dx []) ∧ Unl K H ve b ∧
  (b = false → ∀ (d : Addr) (H' : Hp), Same H H' → H d = none → H' d = some (.xd [("value", ve)]) → E (.ref (ga K "InvalidEntries")) (some d) H') ∧
  (b = true → ∃ (e : Addr) (zs : List Str), ve = .ref e ∧ SqL K H e (zs.map V.str) ∧ zs.length < 64 ∧ ∀ xs : List Str, xs.Perm zs → sortedS xs = true → ∃ b2, RowsV K H xs vr b2 ∧
    (b2 = false → ∀ (d : Addr) (H' : Hp), Same H H' → H d = none → H' d = some (.xd [("value", vr)]) → E (.ref (ga K "InvalidRows")) (some d) H') ∧
    (b2 = true → ∀ (r : Addr) (as : List Addr) (rs : List (List Str)), vr = .ref r → H r = some (.lst (as.map V.ref)) → RowsAt H as rs → (∀ y ∈ rs, y.Perm xs) →
      ∀ (fs : List (Str × V)) (N R : Addr) (cs : List Addr) (H' : Hp), H' a = some (.ins C dx fs) → fs.lookup ("_entries" : Str) = some (V.ref N) → fs.lookup ("_rows" : Str) = some (V.ref R) → H' N = some (.lst (xs.map V.str)) → H' R = some (.lst (cs.map V.ref)) → RowsAt H' cs rs →
        H N = none → H R = none → (∀ c ∈ cs, H c = none) → fs.lookup ("entries" : Str) = none → fs.lookup ("rows" : Str) = none → But a H H' → Q .non H'))
section
variable {P : Program} {w : World} {K : PySem.W.Frag} {mg : Str → Option Value} {base : Heap}
abbrev sInit : Stmt := methS 0
theorem scInit : FnScope ["self", "entries", "rows", "names", "row"] ["self", "entries", "rows"] (defScope sInit) := ⟨rfl, rfl, rfl, by decide +kernel, rfl, by decide +kernel, by decide +kernel⟩
theorem ok_init {f fE fR C : Addr} {fd fdE fdR : FuncData} (F : FnM K "__init__" "Panel.__init__" sInit f fd) (L : Lib K mg) (LP : LibP mg) (PC : PanC K C)
    (FE : FnP K "check_entries" sChkE fE fdE) (gE : mg "check_entries" = some (.ref fE)) (GE : FnOk P w K mg base (L2.CX P w) 3 fE fdE ["entries"] (spChkE K))
    (FR : FnP K "check_rows" sChkR fR fdR) (gR : mg "check_rows" = some (.ref fR)) (GR : FnOk P w K mg base (L2.CX P w) 3 fR fdR ["entries", "rows"] (spChkR K)) : FnOk P w K mg base (L2.CX P w) 4 f fd ["self", "entries", "rows"] (spInit K C) := by
  have bE : Binds K fdE ["entries"] [] := FE.bindsN fun _ _ _ _ _ _ us hl => match us, hl with | [_], _ => rfl
  have bR : Binds K fdR ["entries", "rows"] [] := FR.bindsN fun _ _ _ _ _ _ us hl => match us, hl with | [_, _], _ => rfl
  refine F.ok scInit (fun vs H Q E h => ?_) (fun cdv A outer s H vs Q E hr h => ?_)
  · obtain ⟨_, _, _, _, _, rfl, _⟩ := h
    rfl
  · obtain ⟨a, dx, ve, vr, b, rfl, ha, hv, k1, k2⟩ := h
    have tk : Takes (cxOf (L2.CX P w) P w K mg base ["self", "entries", "rows", "names", "row"] "Panel.__init__" (defScope sInit) f cdv A outer s H E) (fun cls d _ H' => E cls d H') := takes_of rfl rfl rfl rfl
    refine ⟨_, pss_cons (ps_expr (pe_callS GE hr (by rfl) gE FE.kp bE (fun σ => passAt tk σ) (pa_cons (pv 1) pa_nil)))
      (pss_cons (ps_set (i := 3) scInit.nd rfl (Or.inl rfl) (pe_callB cr_sortedS (by rfl) LP.sorted (by decide +kernel) (pa_cons (pv 1) pa_nil)))
      (pss_cons (ps_expr (pe_callS GR hr (by rfl) gR FR.kp bR (fun σ => passAt tk σ) (pa_cons (pv 3) (pa_cons (pv 2) pa_nil))))
      (pss_cons (ps_fld (pv 0) (pv 3) rfl)
      (pss_one (ps_fld (pv 0) (pe_lc (own := [("row", 4)]) (g := gName 4) (tt := tYes) (te := tCB (fun xs H Q => ∃ p ys, xs = [V.ref p] ∧ (SqL K H p ys ∨ SqT K H p ys) ∧ ∀ l, H l = none → Q (.ref l) (upd H l (.lst ys))) (tCons (tVar 4) tNil)) rfl scInit.nd (pi_list (pv 2))
            (blkOk_by (N := ["self", "entries", "rows", "names", "row"]) (sc := defScope sInit) (by decide +kernel)) (fun _ _ _ _ _ => pg_name (i := 4) scInit.nd rfl (Or.inl rfl)) (fun _ _ _ _ _ => pts_nil)
            (fun _ _ _ _ _ => pe_callTy call_list_of (by rfl) LP.list (by decide +kernel) (pa_cons (pv 4) pa_nil))) rfl))))), ?_⟩
    refine ⟨_, rfl, ve, b, rfl, hv, fun hb H1 s1 => ?_, fun hb d H' s2 nd hd => k1 hb d H' s2 nd hd⟩
    obtain ⟨e, zs, rfl, hS, hz, k3⟩ := k2 hb
    refine ⟨_, rfl, e, zs, rfl, s1.seq hS, hz, fun xs N perm so nN => ?_⟩
    have s2 : Same H1 (upd H1 N (.lst (xs.map V.str))) := sn nN
    have fN : upd H1 N (.lst (xs.map V.str)) N = some (.lst (xs.map V.str)) := upd_same
    generalize upd H1 N (.lst (xs.map V.str)) = H2 at s2 fN ⊢
    have nNH : H N = none := s1.free nN
    have s12 := s1.trans s2
    obtain ⟨b2, hR, kf, kt⟩ := k3 xs perm so
    refine ⟨_, rfl, _, rfl, N, xs, vr, b2, rfl, SqL.of fN, so, hR.same s12, fun hb2 H3 s3 => ?_, fun hb2 d H' s4 nd hd => kf hb2 d H' (s12.trans s4) (s12.free nd) hd⟩
    have s13 := s12.trans s3
    have ha3 := s13 _ _ ha
    refine ⟨_, rfl, _, rfl, a, C, dx, [], rfl, ha3, PC.cls, PC.nE, (show 0 < 1000 by decide), ?_⟩
    have nNa : N ≠ a := fun q => by
      rw [q, ha] at nNH
      cases nNH
    have fN4 : upd H3 a (.ins C dx (putF "_entries" (.ref N) [])) N = some (.lst (xs.map V.str)) := by
      rw [upd_ne nNa]
      exact s3 _ _ fN
    have fa4 : upd H3 a (.ins C dx (putF "_entries" (.ref N) [])) a = some (.ins C dx (putF "_entries" (.ref N) [])) := upd_same
    have b4 : But a H (upd H3 a (.ins C dx (putF "_entries" (.ref N) []))) := (But.same s13).trans But.upd
    generalize upd H3 a (.ins C dx (putF "_entries" (.ref N) [])) = H4 at fN4 fa4 b4 ⊢
    cases hR with
    | no _ _ => cases hb2
    | @lst r vs bs e1 e2 e3 =>
      obtain ⟨_, hall⟩ := He.ba hb2
      obtain ⟨as, rs, rfl, hra, hrp⟩ := rows_of_all e3 hall
      have nra : r ≠ a := fun q => by
        rw [q, ha] at e1
        cases e1
      have nas : ∀ c ∈ as, c ≠ a := fun c hc q => by
        obtain ⟨y, _, e⟩ := hra.strs hc
        rw [q, ha] at e
        cases e
      have f4 := b4 _ _ nra e1
      have r4 : RowsAt H4 as rs := hra.keep fun c hc o e => b4 c o (nas c hc) e
      have kk := kt hb2 r as rs rfl e1 hra hrp
      refine ⟨_, rfl, r, rfl, ⟨_, SqL.of f4⟩, fun D hD => lc_list (K := K) (a := r) (xs := as.map V.ref) (fun i H' => ∃ cs : List Addr, H' D = some (.lst (cs.map V.ref)) ∧ RowsAt H' cs (rs.take i) ∧ (∀ c ∈ cs, H4 c = none ∧ c ≠ D) ∧ Same H4 H') ?_ (fun i H' _ h => by obtain ⟨_, _, _, _, h⟩ := h; exact SqL.of (h _ _ f4)) ?_ ?_⟩
      · exact ⟨[], upd_same, .nil, (fun c hc => nomatch hc), sn hD⟩
      · rintro i y H' hi ⟨cs, q1, q2, q3, q4⟩
        rw [List.getElem?_map] at hi
        obtain ⟨c, hc, rfl⟩ := Option.map_eq_some_iff.mp hi
        obtain ⟨ws, hw1, hw2⟩ := r4.at hc
        refine ⟨rfl, _, rfl, c, ws.map V.str, rfl, .inl (SqL.of (q4 _ _ hw2)), fun l nl => ?_⟩
        have s5 : Same H' (upd H' l (.lst (ws.map V.str))) := sn nl
        have fl : upd H' l (.lst (ws.map V.str)) l = some (.lst (ws.map V.str)) := upd_same
        generalize upd H' l (.lst (ws.map V.str)) = H5 at s5 fl ⊢
        have nlD : l ≠ D := fun q => by
          rw [q, q1] at nl
          cases nl
        refine ⟨cs.map V.ref, s5 _ _ q1, ?_, cs ++ [l], by rw [upd_same, List.map_append]; rfl, ?_, ?_, fun b o e => ?_⟩
        · refine small1000 ?_
          rw [List.length_map, q2.len]
          have := List.length_take_le' i rs
          have := hra.len
          rw [List.length_map] at e2
          omega
        · have tk2 : rs.take (i + 1) = rs.take i ++ [ws] := by rw [List.take_succ, hw1]; rfl
          rw [tk2]
          refine RowsAt.snoc ((q2.same s5).keep fun x hx o e => ?_) ?_
          · rw [upd_ne (q3 x hx).2]
            exact e
          · rw [upd_ne nlD]
            exact fl
        · intro x hx
          rcases List.mem_append.mp hx with hx | hx
          · exact q3 x hx
          · rw [List.mem_singleton.mp hx]
            exact ⟨q4.free nl, nlD⟩
        · rw [upd_ne (ne_of_none e hD)]
          exact s5 _ _ (q4 _ _ e)
      · rintro H' ⟨cs, q1, q2, q3, q4⟩
        have lr : (as.map V.ref).length = rs.length := by rw [List.length_map, hra.len]
        rw [lr, List.take_length] at q2
        have fa5 := q4 _ _ fa4
        refine ⟨_, rfl, a, C, dx, _, rfl, fa5, PC.cls, PC.nR, (show 1 < 1000 by decide), ?_⟩
        have nDa : D ≠ a := fun q => by
          rw [q, fa4] at hD
          cases hD
        have nDH : H D = none := by
          cases e : H D with
          | none => rfl
          | some o =>
            rw [b4 _ _ nDa e] at hD
            cases hD
        have ncs : ∀ c ∈ cs, c ≠ a := fun c hc q => by
          obtain ⟨y, _, e⟩ := q2.strs hc
          rw [q, fa5] at e
          cases e
        refine kk (putF "_rows" (.ref D) (putF "_entries" (.ref N) [])) N D cs _ upd_same rfl rfl ?_ ?_ (q2.keep fun c hc o e => by rw [upd_ne (ncs c hc)]; exact e) nNH nDH (fun c hc => ?_) rfl rfl ((b4.trans (But.same q4)).trans But.upd)
        · rw [upd_ne nNa]
          exact q4 _ _ fN4
        · rw [upd_ne nDa]
          exact q1
        · cases e : H c with
          | none => rfl
          | some o =>
            have := (q3 c hc).1
            rw [b4 _ _ (ncs c hc) e] at this
            cases this
end
end K02

set_option maxHeartbeats 4000000
namespace K02
open PySem PySem.Spec PyProof.Rows L2 G1
/-- lists of rows -/
theorem lists_rows {K : PySem.W.Frag} {H : Hp} {a c : Addr} {as cs : List Addr} {rs ts : List (List Str)} (ha : H a = some (.lst (as.map V.ref))) (hc : H c = some (.lst (cs.map V.ref))) (hr : RowsAt H as rs) (ht : RowsAt H cs ts) :
    Lists2 K H 1 (.ref a) (.ref c) (decide (rs = ts)) := by
  refine ⟨a, c, _, _, rfl, rfl, SqL.of ha, SqL.of hc, ?_⟩
  have l1 := hr.len
  have l2 := ht.len
  by_cases l : rs.length = ts.length
  · refine .inr ⟨by rw [List.length_map, List.length_map]; omega, fun i => decide (rs[i]? = ts[i]?), fun i x y hx hy => ?_, by rw [List.length_map, l1, all_range_eq l]⟩
    rw [List.getElem?_map] at hx hy
    obtain ⟨b, hb, rfl⟩ := Option.map_eq_some_iff.mp hx
    obtain ⟨d, hd, rfl⟩ := Option.map_eq_some_iff.mp hy
    obtain ⟨r, hr1, hr2⟩ := hr.at hb
    obtain ⟨t, ht1, ht2⟩ := ht.at hd
    show EqW K H 1 (.ref b) (.ref d) (decide (rs[i]? = ts[i]?))
    rw [hr1, ht1]
    by_cases q : b = d
    · subst q
      rw [hr2] at ht2
      injection ht2 with e
      injection e with e
      rw [map_str_inj e, decide_eq_true rfl]
      exact .same
    · obtain ⟨_, _, us, ws, e1, e2, s1, s2, z⟩ := lists_strs (K := K) (SqL.of hr2) (SqL.of ht2)
      have de : decide (some r = some t) = decide (r = t) := by
        by_cases w : r = t
        · rw [w, decide_eq_true rfl, decide_eq_true rfl]
        · rw [decide_eq_false w, decide_eq_false fun h => w (Option.some.inj h)]
      rw [de]
      cases e1
      cases e2
      rcases z with ⟨ne, e⟩ | ⟨len, f, hf, e⟩
      · rw [e]
        exact .lens q s1 s2 ne
      · rw [e]
        exact .lists q s1 s2 len hf
  · refine .inl ⟨by rw [List.length_map, List.length_map]; omega, decide_eq_false fun e => l (by rw [e])⟩
/-- a panel of entries xs and rows rs -/
def PanelAt (H : Hp) (C a : Addr) (xs : List Str) (rs : List (List Str)) : Prop := ∃ (dx : Addr) (fs : List (Str × V)) (N R : Addr) (cs : List Addr), H a = some (.ins C dx fs) ∧ fs.lookup ("_entries" : Str) = some (V.ref N) ∧ fs.lookup ("_rows" : Str) = some (V.ref R) ∧
  H N = some (.lst (xs.map V.str)) ∧ H R = some (.lst (cs.map V.ref)) ∧ RowsAt H cs rs
theorem PanelAt.same {H H' : Hp} {C a : Addr} {xs : List Str} {rs : List (List Str)} (h : PanelAt H C a xs rs) (s : Same H H') : PanelAt H' C a xs rs := by
  obtain ⟨dx, fs, N, R, cs, h1, h2, h3, h4, h5, h6⟩ := h
  exact ⟨dx, fs, N, R, cs, s _ _ h1, h2, h3, s _ _ h4, s _ _ h5, h6.same s⟩
def spEnt (C : Addr) : Sp := fun vs H Q _ => ∃ (a : Addr) (xs : List Str) (rs : List (List Str)), vs = [.ref a] ∧ PanelAt H C a xs rs ∧ ∀ D H', Same H H' → H D = none → H' D = some (.lst (xs.map V.str)) → Q (.ref D) H'
def spRws (C : Addr) : Sp := fun vs H Q _ => ∃ (a : Addr) (xs : List Str) (rs : List (List Str)), vs = [.ref a] ∧ PanelAt H C a xs rs ∧ rs.length ≤ 60 ∧
  ∀ D (as : List Addr) H', Same H H' → H D = none → H' D = some (.lst (as.map V.ref)) → RowsAt H' as rs → (∀ c ∈ as, H c = none ∧ c ≠ D) → as.Nodup → Q (.ref D) H'
def spLen (C : Addr) : Sp := fun vs H Q _ => ∃ (a : Addr) (xs : List Str) (rs : List (List Str)), vs = [.ref a] ∧ PanelAt H C a xs rs ∧ Q (.int (rs.length : Int)) H
section
variable {P : Program} {w : World} {K : PySem.W.Frag} {mg : Str → Option Value} {base : Heap} {C : Addr}
abbrev sEnt : Stmt := methS 1
theorem scEnt : FnScope ["self"] ["self"] (defScope sEnt) := ⟨rfl, rfl, rfl, by decide +kernel, rfl, by decide +kernel, by decide +kernel⟩
theorem ok_ent {f : Addr} {fd : FuncData} (F : FnM K "entries" "Panel.entries" sEnt f fd) (LP : LibP mg) (PC : PanC K C) : FnOk P w K mg base CX0 1 f fd ["self"] (spEnt C) := by
  refine okN F scEnt (fun vs H Q E h => ?_) (fun cdv A outer s H vs Q E hr h => ?_)
  · obtain ⟨_, _, _, rfl, _⟩ := h
    rfl
  · obtain ⟨a, xs, rs, rfl, ⟨dx, fs, N, R, cs, h1, h2, h3, h4, h5, h6⟩, k⟩ := h
    refine ⟨_, pss_one (ps_ret (pe_callTy call_list_of (by rfl) LP.list (by decide +kernel) (pa_cons (pe_fld (pv 0) rfl) pa_nil))), ?_⟩
    exact ⟨_, rfl, a, C, dx, fs, _, rfl, h1, PC.cls, PC.nE, h2, N, _, rfl, .inl (SqL.of h4), fun D nD => k D _ (sn nD) nD upd_same⟩
abbrev sLen : Stmt := methS 3
theorem scLen : FnScope ["self"] ["self"] (defScope sLen) := ⟨rfl, rfl, rfl, by decide +kernel, rfl, by decide +kernel, by decide +kernel⟩
theorem ok_len {f : Addr} {fd : FuncData} (F : FnM K "__len__" "Panel.__len__" sLen f fd) (L : Lib K mg) (PC : PanC K C) : FnOk P w K mg base CX0 1 f fd ["self"] (spLen C) := by
  refine okN F scLen (fun vs H Q E h => ?_) (fun cdv A outer s H vs Q E hr h => ?_)
  · obtain ⟨_, _, _, rfl, _⟩ := h
    rfl
  · obtain ⟨a, xs, rs, rfl, ⟨dx, fs, N, R, cs, h1, h2, h3, h4, h5, h6⟩, k⟩ := h
    refine ⟨_, pss_one (ps_ret (pe_callB call_len_seq (by rfl) L.len PySem.boot_len (pa_cons (pe_fld (pv 0) rfl) pa_nil))), ?_⟩
    refine ⟨_, rfl, a, C, dx, fs, _, rfl, h1, PC.cls, PC.nR, h3, R, _, rfl, .inl (SqL.of h5), ?_⟩
    rw [List.length_map, h6.len]
    exact k
abbrev sRws : Stmt := methS 2
theorem scRws : FnScope ["self", "row"] ["self"] (defScope sRws) := ⟨rfl, rfl, rfl, by decide +kernel, rfl, by decide +kernel, by decide +kernel⟩
theorem ok_rws {f : Addr} {fd : FuncData} (F : FnM K "rows" "Panel.rows" sRws f fd) (LP : LibP mg) (PC : PanC K C) : FnOk P w K mg base CX0 1 f fd ["self"] (spRws C) := by
  refine okN F scRws (fun vs H Q E h => ?_) (fun cdv A outer s H vs Q E hr h => ?_)
  · obtain ⟨_, _, _, rfl, _⟩ := h
    rfl
  · obtain ⟨a, xs, rs, rfl, ⟨dx, fs, N, R, cs, h1, h2, h3, h4, h5, h6⟩, le, k⟩ := h
    refine ⟨_, pss_one (ps_ret (pe_lc (own := [("row", 1)]) (g := gName 1) (tt := tYes) (te := tCB (fun xs H Q => ∃ p ys, xs = [V.ref p] ∧ (SqL K H p ys ∨ SqT K H p ys) ∧ ∀ l, H l = none → Q (.ref l) (upd H l (.lst ys))) (tCons (tVar 1) tNil)) rfl scRws.nd (pi_list (pe_fld (pv 0) rfl))
            (blkOk_by (N := ["self", "row"]) (sc := defScope sRws) (by decide +kernel)) (fun _ _ _ _ _ => pg_name (i := 1) scRws.nd rfl (Or.inl rfl)) (fun _ _ _ _ _ => pts_nil)
            (fun _ _ _ _ _ => pe_callTy call_list_of (by rfl) LP.list (by decide +kernel) (pa_cons (pv 1) pa_nil)))), ?_⟩
    refine ⟨_, rfl, a, C, dx, fs, _, rfl, h1, PC.cls, PC.nR, h3, R, rfl, ⟨_, SqL.of h5⟩, fun D hD => lc_list (K := K) (a := R) (xs := cs.map V.ref) (fun i H' => ∃ as : List Addr, H' D = some (.lst (as.map V.ref)) ∧ RowsAt H' as (rs.take i) ∧ (∀ c ∈ as, H c = none ∧ c ≠ D) ∧ as.Nodup ∧ Same H H') ?_ (fun i H' _ h => by obtain ⟨_, _, _, _, _, h⟩ := h; exact SqL.of (h _ _ h5)) ?_ ?_⟩
    · exact ⟨[], upd_same, .nil, (fun c hc => nomatch hc), .nil, sn hD⟩
    · rintro i y H' hi ⟨as, q1, q2, q3, qn, q4⟩
      rw [List.getElem?_map] at hi
      obtain ⟨c, hc, rfl⟩ := Option.map_eq_some_iff.mp hi
      obtain ⟨ws, hw1, hw2⟩ := h6.at hc
      refine ⟨rfl, _, rfl, c, ws.map V.str, rfl, .inl (SqL.of (q4 _ _ hw2)), fun l nl => ?_⟩
      have s5 : Same H' (upd H' l (.lst (ws.map V.str))) := sn nl
      have fl : upd H' l (.lst (ws.map V.str)) l = some (.lst (ws.map V.str)) := upd_same
      generalize upd H' l (.lst (ws.map V.str)) = H5 at s5 fl ⊢
      have nlD : l ≠ D := fun q => by
        rw [q, q1] at nl
        cases nl
      have nla : l ∉ as := fun hx => by
        obtain ⟨y, _, e⟩ := q2.strs hx
        rw [nl] at e
        cases e
      refine ⟨as.map V.ref, s5 _ _ q1, ?_, as ++ [l], by rw [upd_same, List.map_append]; rfl, ?_, ?_, ?_, fun b o e => ?_⟩
      · refine small1000 ?_
        rw [List.length_map, q2.len]
        have := List.length_take_le' i rs
        omega
      · have tk2 : rs.take (i + 1) = rs.take i ++ [ws] := by rw [List.take_succ, hw1]; rfl
        rw [tk2]
        refine RowsAt.snoc ((q2.same s5).keep fun x hx o e => ?_) ?_
        · rw [upd_ne (q3 x hx).2]
          exact e
        · rw [upd_ne nlD]
          exact fl
      · intro x hx
        rcases List.mem_append.mp hx with hx | hx
        · exact q3 x hx
        · rw [List.mem_singleton.mp hx]
          exact ⟨q4.free nl, nlD⟩
      · exact List.nodup_append.mpr ⟨qn, List.pairwise_singleton _ _, fun x hx z hz e => nla (by rw [← List.mem_singleton.mp hz, ← e]; exact hx)⟩
      · rw [upd_ne (ne_of_none e hD)]
        exact s5 _ _ (q4 _ _ e)
    · rintro H' ⟨as, q1, q2, q3, qn, q4⟩
      have lr : (cs.map V.ref).length = rs.length := by rw [List.length_map, h6.len]
      rw [lr, List.take_length] at q2
      exact k D as H' q4 hD q1 q2 q3 qn
end
end K02

set_option maxHeartbeats 4000000
namespace K02
open PySem PySem.Spec PyProof.Rows L2 G1
/-- what more is known of the class -/
structure PanX (K : PySem.W.Frag) (C : Addr) : Prop extends PanC K C where
  cc : PySem.W.findIn K (.ref C) "__class__" = some (some (.builtin "object.__class__"))
  sg : PySem.W.specialIn K (.builtin "object.__class__") "__get__" = some (some (.builtin "getset_descriptor.__get__"))
  tk : PySem.W.takesIn K (.builtin "object.__class__") = some true
  mo : PySem.W.mroIn K C (.type "object") = some true
  me : PySem.W.kitOne K (.ref C) (.ref C) = some true
  no : ∀ T : String, T = "NoneType" ∨ T = "int" ∨ T = "list" ∨ T = "tuple" → PySem.W.kitOne K (.type T) (.ref C) = some false
def DPan (K : PySem.W.Frag) (C : Addr) : V → V → Hp → Bool → Prop := fun x y H b => ∃ (a : Addr) (xs : List Str) (rs : List (List Str)), x = .ref a ∧ PanelAt H C a xs rs ∧
  ((∃ (c : Addr) (ys : List Str) (ts : List (List Str)), y = .ref c ∧ PanelAt H C c ys ts ∧ b = (decide (xs = ys) && decide (rs = ts))) ∨ (∃ T : String, TyX K H y (.type T) ∧ PySem.W.kitOne K (.type T) (.ref C) = some false ∧ b = false))
section
variable {P : Program} {w : World} {K : PySem.W.Frag} {mg : Str → Option Value} {base : Heap} {C : Addr}
abbrev sEq : Stmt := methS 4
theorem scEq : FnScope ["self", "other"] ["self", "other"] (defScope sEq) := ⟨rfl, rfl, rfl, by decide +kernel, rfl, by decide +kernel, by decide +kernel⟩
theorem ok_eq {f : Addr} {fd : FuncData} (F : FnM K "__eq__" "Panel.__eq__" sEq f fd) (LP : LibP mg) (PC : PanX K C) (gP : mg "Panel" = some (.ref C)) : FnOk P w K mg base CX0 1 f fd ["self", "other"] (spEqB (DPan K C)) := by
  refine okN F scEq (fun vs H Q E h => ?_) (fun cdv A outer s H vs Q E hr h => ?_)
  · obtain ⟨_, _, _, rfl, _⟩ := h
    rfl
  · obtain ⟨x, y, b, rfl, ⟨a, xs, rs, rfl, ⟨dx, fs, N, R, cs, h1, h2, h3, h4, h5, h6⟩, hy⟩, k⟩ := h
    have hu := hr.units
    have hu1 : (A.deeper (envOfC "Panel.__eq__" (defScope sEq) s.heap.objs.size f cdv)).units + (0 + 1) < cLine := by omega
    have hu2 : (A.deeper (envOfC "Panel.__eq__" (defScope sEq) s.heap.objs.size f cdv)).units + (1 + 1) < cLine := by omega
    refine ⟨_, pss_one (ps_ret (pe_and (pe_callB call_isi (by rfl) LP.isi (by decide +kernel) (pa_cons (pv 1) (pa_cons (pe_glob (v := .ref C) (by rfl) gP rfl) pa_nil)))
      (pe_and (pe_cmpR (op_eqW (n := 0) hu1) (pe_fld (pv 0) rfl) (pe_fld (pv 1) rfl) (nomark _)) (pe_one (pe_cmpR (op_eqW (n := 1) hu2) (pe_fld (pv 0) rfl) (pe_fld (pv 1) rfl) (nomark _)))))), ?_⟩
    rcases hy with ⟨c, ys, ts, rfl, ⟨dy, gs, N2, R2, ds, g1, g2, g3, g4, g5, g6⟩, rfl⟩ | ⟨T, ty, nk, rfl⟩
    · refine ⟨_, rfl, .ref c, .ref C, .ref C, .ref C, true, rfl, .own C, .base (.ins g1 PC.cls PC.cc PC.sg PC.tk PC.mo), PC.me, true, rfl, iteT ?_⟩
      refine ⟨_, rfl, a, C, dx, fs, _, rfl, h1, PC.cls, PC.nE, h2, _, rfl, c, C, dy, gs, _, rfl, g1, PC.cls, PC.nE, g2, _, lists_strs (SqL.of h4) (SqL.of g4), _, rfl, ?_⟩
      cases e1 : decide (xs = ys) with
      | false =>
        rw [e1] at k
        exact iteF (k H (Same.refl H))
      | true =>
        rw [e1] at k
        refine iteT ⟨_, rfl, a, C, dx, fs, _, rfl, h1, PC.cls, PC.nR, h3, _, rfl, c, C, dy, gs, _, rfl, g1, PC.cls, PC.nR, g3, _, lists_rows h5 g5 h6 g6, ?_⟩
        exact k H (Same.refl H)
    · refine ⟨_, rfl, y, .ref C, .type T, .ref C, false, rfl, .own C, ty, nk, false, rfl, iteF ?_⟩
      exact k H (Same.refl H)
end
end K02

set_option maxHeartbeats 4000000
namespace K02
open PySem PySem.Spec PyProof.Rows L2 G1
/-- what is known of the two errors' classes where they are caught -/
structure CatC (K : PySem.W.Frag) (mg : Str → Option Value) : Prop where
  xE : XfC K (ga K "InvalidEntries")
  xR : XfC K (ga K "InvalidRows")
  nE : PySem.W.findIn K (.ref (ga K "InvalidEntries")) "value" = some none
  nR : PySem.W.findIn K (.ref (ga K "InvalidRows")) "value" = some none
  gE : mg "InvalidEntries" = some (.ref (ga K "InvalidEntries"))
  gR : mg "InvalidRows" = some (.ref (ga K "InvalidRows"))
  ee : PySem.W.exmOne K (.ref (ga K "InvalidEntries")) (.ref (ga K "InvalidEntries")) = some true
  re : PySem.W.exmOne K (.ref (ga K "InvalidRows")) (.ref (ga K "InvalidEntries")) = some false
  rr : PySem.W.exmOne K (.ref (ga K "InvalidRows")) (.ref (ga K "InvalidRows")) = some true
def spCaught (K : PySem.W.Frag) : Sp := fun vs H Q _ => ∃ (ve vr : V), vs = [ve, vr] ∧
  ((Unl K H ve false ∧ ∀ D H', Same H H' → H D = none → H' D = some (.lst [.str "entries", ve]) → Q (.ref D) H') ∨
   (Unl K H ve true ∧ (∃ (e : Addr) (zs : List Str), ve = .ref e ∧ SqL K H e (zs.map V.str) ∧ zs.length < 64 ∧ ∀ xs : List Str, xs.Perm zs → sortedS xs = true → RowsV K H xs vr false) ∧
     ∀ D H', Same H H' → H D = none → H' D = some (.lst [.str "rows", vr]) → Q (.ref D) H'))
section
variable {P : Program} {w : World} {K : PySem.W.Frag} {mg : Str → Option Value} {base : Heap} {C : Addr}
abbrev sCaught : Stmt := top 24
abbrev nCaught : List Str := ["_law_names_here", "_law_rows", "_law_caught_here", "error"]
theorem scCaught : FnScope nCaught ["_law_names_here", "_law_rows"] (defScope sCaught) := ⟨rfl, rfl, rfl, by decide +kernel, rfl, by decide +kernel, by decide +kernel⟩
theorem Unl.same {K : PySem.W.Frag} {H H' : Hp} {v : V} {b : Bool} (h : Unl K H v b) (s : Same H H') : Unl K H' v b := by
  cases h with
  | no t n => exact .no (TyX.same t s) n
  | odd h1 h2 h3 h4 => exact .odd (s _ _ h1) h2 (h3.same s) h4
  | names h1 h2 h3 => exact .names (s _ _ h1) h2 h3
def tSuite (x : Str) (C : Addr) : TsE := fun a cls d => tAsg (tLst (tCons (tC (.str x)) (tCons (tXf a cls d C "value" (tVar 3)) tNil))) (gName 2)
theorem ok_caught {f fI : Addr} {fd fdI : FuncData} (F : FnP K "_law_caught" sCaught f fd) (CC : CatC K mg) (M : Mk K C fI) (gP : mg "Panel" = some (.ref C))
    (FI : FnM K "__init__" "Panel.__init__" sInit fI fdI) (GI : FnOk P w K mg base (L2.CX P w) 4 fI fdI ["self", "entries", "rows"] (spInit K C)) : FnOk P w K mg base CX0 6 f fd ["_law_names_here", "_law_rows"] (spCaught K) := by
  have bI : Binds K fdI ["self", "entries", "rows"] [] := FI.bindsN fun _ _ _ _ _ _ us hl => match us, hl with | [_, _, _], _ => rfl
  refine okN F scCaught (fun vs H Q E h => ?_) (fun cdv A outer s H vs Q E hr h => ?_)
  · obtain ⟨_, _, rfl, _⟩ := h
    rfl
  · obtain ⟨ve, vr, rfl, h⟩ := h
    refine ⟨_, pss_cons (ps_set (i := 2) scCaught.nd rfl (Or.inl rfl) pe_non)
      (pss_cons (ps_try_all (i := 3) (n := "error") (tb := fun W => tDrop (tMakeS C (spInit K C) (WE W) (tCons (tVar 0) (tCons (tVar 1) tNil)))) (Wout := fun _ _ _ _ => False)
          (l := [(.ref (ga K "InvalidEntries"), tSuite "entries" (ga K "InvalidEntries")), (.ref (ga K "InvalidRows"), tSuite "rows" (ga K "InvalidRows"))]) rfl rfl scCaught.nd rfl rfl takes_none5
          (fun W pn xe tk _ => pss_one (ps_expr (pe_makeS M GI hr (by rfl) gP bI (fun σ => passAt tk σ) (pa_cons (pv 0) (pa_cons (pv 1) pa_nil)))))
          (.cons ⟨rfl, by decide, .inl CC.gE⟩ (fun a oe cls d pn hz hf => pss_one (ps_set (i := 2) scCaught.nd rfl (Or.inl rfl) (pe_lst (pa_cons pe_str (pa_cons (pe_xf CC.xE CC.nE hz hf (pv 3)) pa_nil)))))
          (.cons ⟨rfl, by decide, .inl CC.gR⟩ (fun a oe cls d pn hz hf => pss_one (ps_set (i := 2) scCaught.nd rfl (Or.inl rfl) (pe_lst (pa_cons pe_str (pa_cons (pe_xf CC.xR CC.nR hz hf (pv 3)) pa_nil))))) .nil)))
      (pss_one (ps_ret (pv 2)))), ?_⟩
    refine ⟨_, rfl, _, rfl, fun a dx na ndx nda => ?_⟩
    have s1 : Same H (upd (upd H dx (.own a)) a (.ins C dx [])) := (sn ndx).trans (sn (by rw [upd_ne (Ne.symm nda)]; exact na))
    have fa : upd (upd H dx (.own a)) a (.ins C dx []) a = some (.ins C dx []) := upd_same
    generalize upd (upd H dx (.own a)) a (.ins C dx []) = H1 at s1 fa ⊢
    rcases h with ⟨hv, k⟩ | ⟨hv, ⟨e, zs, rfl, hS, hz, hR⟩, k⟩
    · refine ⟨a, dx, ve, vr, false, rfl, fa, hv.same s1, fun _ d H2 s2 nd hd => ?_, (fun q => nomatch q)⟩
      refine ⟨true, CC.ee, fun _ x nx => ?_, (fun q => nomatch q)⟩
      refine ⟨_, rfl, rfl, rfl, d, _, ve, rfl, hd, rfl, (show 2 ≤ sizeLine by decide), fun D nD => ?_⟩
      exact ⟨_, rfl, k D _ ((s1.trans s2).trans (sn nD)) ((s1.trans s2).free nD) upd_same⟩
    · refine ⟨a, dx, .ref e, vr, true, rfl, fa, hv.same s1, (fun q => nomatch q), fun _ => ⟨e, zs, rfl, s1.seq hS, hz, fun xs p so => ⟨false, (hR xs p so).same s1, fun _ d H2 s2 nd hd => ?_, (fun q => nomatch q)⟩⟩⟩
      refine ⟨false, CC.re, (fun q => nomatch q), fun _ => ⟨true, CC.rr, fun _ x nx => ?_, (fun q => nomatch q)⟩⟩
      refine ⟨_, rfl, rfl, rfl, d, _, vr, rfl, hd, rfl, (show 2 ≤ sizeLine by decide), fun D nD => ?_⟩
      exact ⟨_, rfl, k D _ ((s1.trans s2).trans (sn nD)) ((s1.trans s2).free nD) upd_same⟩
end
end K02

set_option maxHeartbeats 4000000
namespace K02
open PySem PySem.Spec PyProof.Rows L2 G1
/-- a value that is equal to itself without a look at what it holds -/
def selfV : V → Bool
  | .ref _ => true
  | v => flatV v
theorem self_eqW {K : PySem.W.Frag} {H : Hp} {n : Nat} {v : V} (h : selfV v = true) : EqW K H n v v true := by
  cases v with
  | ref a => exact .same
  | non => exact (.flat rfl rfl : EqW K H n .non .non (eqV .non .non))
  | bl b =>
    have e : eqV (.bl b) (.bl b) = true := by cases b <;> rfl
    rw [← e]
    exact .flat rfl rfl
  | int i =>
    have e : eqV (.int i) (.int i) = true := beq_self_eq_true i
    rw [← e]
    exact .flat rfl rfl
  | str z =>
    have e : eqV (.str z) (.str z) = true := beq_self_eq_true z
    rw [← e]
    exact .flat rfl rfl
  | _ => cases h
/-- a list and itself -/
theorem self_list {K : PySem.W.Frag} {H : Hp} {n : Nat} {l : Addr} {xs : List V} (h : H l = some (.lst xs)) (hx : xs.all selfV = true) : Lists2 K H n (.ref l) (.ref l) true := by
  refine ⟨l, l, xs, xs, rfl, rfl, SqL.of h, SqL.of h, .inr ⟨rfl, fun _ => true, fun i x y e1 e2 => ?_, (List.all_eq_true.mpr fun _ _ => rfl).symm⟩⟩
  rw [e1] at e2
  cases e2
  exact self_eqW (List.all_eq_true.mp hx x (List.mem_of_getElem? e1))
def spVery : Sp := fun vs H Q _ => ∃ (l : Addr) (xs : List V), vs = [.ref l, .ref l] ∧ H l = some (.lst xs) ∧ xs.length ≤ 100 ∧ xs.all selfV = true ∧ ∀ H', Same H H' → Q (.bl true) H'
def spStrange (K : PySem.W.Frag) : Sp := fun vs H Q _ => ∃ (n : Addr) (xs : List Str), vs = [.ref n] ∧ SqL K H n (xs.map V.str) ∧ xs.length ≤ 6 ∧ ((("pie" : Str) ∉ xs) ∨ (("tart" : Str) ∉ xs)) ∧ ∀ (z : Str) H', z ∉ xs → Same H H' → Q (.str z) H'
section
variable {P : Program} {w : World} {K : PySem.W.Frag} {mg : Str → Option Value} {base : Heap}
abbrev sVery : Stmt := top 29
abbrev nVery : List Str := ["_law_value", "_law_thing", "_law_is_very"]
theorem scVery : FnScope nVery ["_law_value", "_law_thing"] (defScope sVery) := ⟨rfl, rfl, rfl, by decide +kernel, rfl, by decide +kernel, by decide +kernel⟩
theorem ok_very {f : Addr} {fd : FuncData} (F : FnP K "_law_very" sVery f fd) : FnOk P w K mg base CX0 1 f fd ["_law_value", "_law_thing"] spVery := by
  refine okN F scVery (fun vs H Q E h => ?_) (fun cdv A outer s H vs Q E hr h => ?_)
  · obtain ⟨_, _, rfl, _⟩ := h
    rfl
  · obtain ⟨l, xs, rfl, hl, le, hx, k⟩ := h
    have hu := hr.units
    have hu1 : (A.deeper (envOfC "_law_very" (defScope sVery) s.heap.objs.size f cdv)).units + (0 + 1) < cLine := by omega
    refine ⟨_, pss_cons (ps_expr (pe_bm PySem.F.plainAttrs_list PySem.F.slot_list_append PySem.F.type_list_append mt_append (pv 1) (pa_cons pe_str pa_nil)))
      (pss_cons (ps_set (i := 2) scVery.nd rfl (Or.inl rfl) (pe_cmpR (op_eqW (n := 0) hu1) (pv 0) (pv 1) (nomark _)))
      (pss_cons (ps_expr (pe_bm0 PySem.F.plainAttrs_list PySem.F.slot_list_pop PySem.F.type_list_pop mt_pop (pv 1)))
      (pss_one (ps_ret (pv 2))))), ?_⟩
    refine ⟨_, rfl, .inl ⟨rfl, _, SqL.of hl⟩, l, xs, .str "more", rfl, rfl, hl, small1000 (by omega), ?_⟩
    have h1 : upd H l (.lst (xs ++ [.str "more"])) l = some (.lst (xs ++ [.str "more"])) := upd_same
    refine ⟨_, rfl, _, rfl, true, self_list h1 (by rw [List.all_append, hx]; rfl), ?_⟩
    refine ⟨_, rfl, .inl ⟨rfl, _, SqL.of h1⟩, l, xs ++ [.str "more"], .str "more", rfl, rfl, h1, by simp, ?_⟩
    refine ⟨_, rfl, k _ fun c o e => ?_⟩
    by_cases q : c = l
    · rw [q, hl] at e
      rw [q, upd_same, List.dropLast_concat]
      exact e
    · rw [upd_ne q, upd_ne q]
      exact e
abbrev sStrange : Stmt := top 26
theorem scStrange : FnScope ["_law_names_here", "_law_word_here"] ["_law_names_here"] (defScope sStrange) := ⟨rfl, rfl, rfl, by decide +kernel, rfl, by decide +kernel, by decide +kernel⟩
theorem ok_strange {f : Addr} {fd : FuncData} (F : FnP K "_law_strange" sStrange f fd) : FnOk P w K mg base CX0 1 f fd ["_law_names_here"] (spStrange K) := by
  refine okN F scStrange (fun vs H Q E h => ?_) (fun cdv A outer s H vs Q E hr h => ?_)
  · obtain ⟨_, _, rfl, _⟩ := h
    rfl
  · obtain ⟨n, xs, rfl, hn, le, ho, k⟩ := h
    refine ⟨_, pss_one (ps_ret (pe_ix ix_list (pe_lc (own := [("_law_word_here", 1)]) (g := gName 1) (tt := tTest (tOp (rIn K true) (tVar 1) (tVar 0))) (te := tVar 1) rfl scStrange.nd (pi_tup (pe_tup (pa_cons pe_str (pa_cons pe_str pa_nil))))
          (blkOk_by (N := ["_law_names_here", "_law_word_here"]) (sc := defScope sStrange) (by decide +kernel)) (fun _ _ _ _ _ => pg_name (i := 1) scStrange.nd rfl (Or.inl rfl))
          (fun _ _ _ _ _ => pts_one (pt_cmpR op_notIn_seq (pv 1) (pv 0) (by rfl))) (fun _ _ _ _ _ => pv 1)) pe_int (fun _ _ => rfl))), ?_⟩
    refine ⟨(show 2 ≤ sizeLine by decide), fun T nT => ?_⟩
    have s1 : Same H (upd H T (.tup [.str "pie", .str "tart"])) := sn nT
    have fT : upd H T (.tup [.str "pie", .str "tart"]) T = some (.tup [.str "pie", .str "tart"]) := upd_same
    generalize upd H T (.tup [.str "pie", .str "tart"]) = H1 at s1 fT ⊢
    refine ⟨T, rfl, ⟨_, SqT.of fT⟩, fun D hD => lc_tup (K := K) (a := T) (xs := ([("pie" : Str), "tart"] : List Str).map V.str) (fun i H' => H' D = some (.lst (((([("pie" : Str), "tart"] : List Str).take i).filter (fun z => decide (z ∉ xs))).map V.str)) ∧ Same H1 H')
      ⟨upd_same, sn hD⟩ (fun i H' _ h => SqT.of (h.2 _ _ fT)) ?_ ?_⟩
    · rintro i y H' hi ⟨q1, q2⟩
      rw [List.getElem?_map] at hi
      obtain ⟨z, hz, rfl⟩ := Option.map_eq_some_iff.mp hi
      have tk : (([("pie" : Str), "tart"] : List Str).take (i + 1)).filter (fun z => decide (z ∉ xs)) = (([("pie" : Str), "tart"] : List Str).take i).filter (fun z => decide (z ∉ xs)) ++ [z].filter (fun z => decide (z ∉ xs)) := by
        rw [List.take_succ, hz, List.filter_append]
        rfl
      refine ⟨rfl, _, rfl, _, rfl, n, xs.map V.str, rfl, .inl ((s1.trans q2).seq hn), rfl, flat_strs, ?_⟩
      refine ⟨!decide (z ∈ xs), by rw [if_pos rfl, inV_str], ?_⟩
      by_cases hm : z ∈ xs
      · refine Eq.mpr (if_neg (show ¬ ((!decide (z ∈ xs)) = true) by simp [hm])) ?_
        rw [tk, List.filter_cons_of_neg (by simp [hm]), List.filter_nil, List.append_nil]
        exact ⟨q1, q2⟩
      · refine Eq.mpr (if_pos (show (!decide (z ∈ xs)) = true by simp [hm])) ?_
        refine ⟨_, rfl, _, q1, ?_, ?_, fun b o e => ?_⟩
        · refine small1000 ?_
          rw [List.length_map]
          have := List.length_filter_le (fun z => decide (z ∉ xs)) (([("pie" : Str), "tart"] : List Str).take i)
          have := List.length_take_le' i ([("pie" : Str), "tart"] : List Str)
          have e2 : ([("pie" : Str), "tart"] : List Str).length = 2 := rfl
          omega
        · rw [upd_same, tk, List.filter_cons_of_pos (by simp [hm]), List.filter_nil, List.map_append]
          rfl
        · rw [upd_ne (ne_of_none e hD)]
          exact q2 _ _ e
    · rintro H' ⟨q1, q2⟩
      rw [List.length_map, List.take_length] at q1
      cases hf : ([("pie" : Str), "tart"] : List Str).filter (fun z => decide (z ∉ xs)) with
      | nil =>
        have no := List.filter_eq_nil_iff.mp hf
        rcases ho with h | h
        · exact absurd (decide_eq_true h) (no "pie" (by simp))
        · exact absurd (decide_eq_true h) (no "tart" (by simp))
      | cons z zs =>
        rw [hf] at q1
        have hz : z ∉ xs := of_decide_eq_true (List.mem_filter.mp (show z ∈ ([("pie" : Str), "tart"] : List Str).filter (fun z => decide (z ∉ xs)) by rw [hf]; exact List.mem_cons_self)).2
        exact ⟨D, _, 0, .str z, rfl, rfl, SqL.of q1, atI_nat (show ((z :: zs).map V.str)[0]? = some (V.str z) from rfl), k z H' hz (s1.trans q2)⟩
end
end K02

set_option maxHeartbeats 8000000
namespace K02
open PySem PySem.Spec PyProof.Rows L2 G1
/-- what stands where names should: no names, equal to itself; a list or not -/
structure OddV (K : PySem.W.Frag) (H : Hp) (v : V) : Prop where
  self : selfV v = true
  un : Unl K H v false
  ty : ∃ (T : String) (b : Bool), TyX K H v (.type T) ∧ kitB T "list" = some b ∧ (b = true → ∃ l xs, v = .ref l ∧ H l = some (.lst xs) ∧ xs.length ≤ 100 ∧ xs.all selfV = true)
theorem OddV.same {K : PySem.W.Frag} {H H' : Hp} {v : V} (h : OddV K H v) (s : Same H H') : OddV K H' v := by
  obtain ⟨h1, h2, T, b, h3, h4, h5⟩ := h
  exact ⟨h1, h2.same s, T, b, TyX.same h3 s, h4, fun q => by
    obtain ⟨l, xs, e1, e2, e3, e4⟩ := h5 q
    exact ⟨l, xs, e1, s _ _ e2, e3, e4⟩⟩
theorem odd_no {K : PySem.W.Frag} {H : Hp} {v : V} {T : String} (s : selfV v = true) (t : TyX K H v (.type T)) (k : kitB T "list" = some false) : OddV K H v := ⟨s, .no t k, T, false, t, k, fun q => nomatch q⟩
theorem odd_lst {K : PySem.W.Frag} {H : Hp} {l : Addr} {xs : List V} {bs : List Bool} (h : H l = some (.lst xs)) (le : xs.length ≤ 100) (nb : NmbL K H xs bs) (no : bs.all id = false) (s : xs.all selfV = true) : OddV K H (.ref l) :=
  ⟨rfl, .odd h le nb no, "list", true, .base (.lst h), by decide +kernel, fun _ => ⟨l, xs, rfl, h, le, s⟩⟩
theorem strs_self {xs : List Str} : (xs.map V.str).all selfV = true := by
  rw [List.all_map]
  exact List.all_eq_true.mpr fun _ _ => rfl
theorem NmbL.append {K : PySem.W.Frag} {H : Hp} {vs ws : List V} {bs cs : List Bool} (h : NmbL K H vs bs) (g : NmbL K H ws cs) : NmbL K H (vs ++ ws) (bs ++ cs) := by
  induction h with
  | nil => exact g
  | cons e _ ih => exact .cons e ih
/-- one that is no name: alone, ahead of names, behind them -/
theorem odd_three {K : PySem.W.Frag} {H : Hp} {v : V} {xs : List Str} {l1 l2 l3 : Addr} (hv : Nmb K H v false) (sv : selfV v = true) (hx : ∀ x ∈ xs, Nm x) (le : xs.length ≤ 6) (h1 : H l1 = some (.lst [v])) (h2 : H l2 = some (.lst (v :: xs.map V.str))) (h3 : H l3 = some (.lst (xs.map V.str ++ [v]))) :
    OddV K H (.ref l1) ∧ OddV K H (.ref l2) ∧ OddV K H (.ref l3) := by
  refine ⟨odd_lst h1 (by simp) (.cons hv .nil) rfl (by simp [sv]), odd_lst h2 (by simp; omega) (.cons hv (.ofNames hx)) rfl (by rw [List.all_cons, sv, strs_self]; rfl), odd_lst h3 (by simp; omega) ((NmbL.ofNames hx).append (.cons hv .nil)) ?_ ?_⟩
  · rw [List.all_append]
    simp
  · rw [List.all_append, strs_self]
    simp [sv]
def spOddN (K : PySem.W.Frag) : Sp := fun vs H Q _ => ∃ (n : Addr) (xs : List Str), vs = [.ref n] ∧ H n = some (.lst (xs.map V.str)) ∧ Ents xs ∧ 1 ≤ xs.length ∧ xs.length ≤ 6 ∧
  ∀ (D : Addr) (vs : List V) (H' : Hp), Same H H' → H D = none → H' D = some (.lst vs) → vs.length ≤ 100 → (∀ v ∈ vs, OddV K H' v) → Q (.ref D) H'
section
variable {P : Program} {w : World} {K : PySem.W.Frag} {mg : Str → Option Value} {base : Heap}
abbrev sOddN : Stmt := top 25
abbrev nOddN : List Str := ["_law_names_here", "_law_some", "_law_odd", "_law_name"]
theorem scOddN : FnScope nOddN ["_law_names_here"] (defScope sOddN) := ⟨rfl, rfl, rfl, by decide +kernel, rfl, by decide +kernel, by decide +kernel⟩
theorem ok_oddN {f : Addr} {fd : FuncData} (F : FnP K "_law_odd_names" sOddN f fd) (lt : mg "tuple" = none) (ld : mg "dict" = none) : FnOk P w K mg base CX0 1 f fd ["_law_names_here"] (spOddN K) := by
  refine okN F scOddN (fun vs H Q E h => ?_) (fun cdv A outer s H vs Q E hr h => ?_)
  · obtain ⟨_, _, rfl, _⟩ := h
    rfl
  · obtain ⟨n, xs, rfl, hn, hE, x1, x6, k⟩ := h
    refine ⟨_, pss_cons (ps_set (i := 1) scOddN.nd rfl (Or.inl rfl) (pe_lst (pa_cons pe_non (pa_cons pe_int (pa_cons pe_str (pa_cons (pe_tup pa_nil) (pa_cons pe_dnewK (pa_cons (pe_lst pa_nil) (pa_cons pe_bl
          (pa_cons (pe_callTy call_tuple_of (by rfl) lt (by decide +kernel) (pa_cons (pv 0) pa_nil))
          (pa_cons (pe_callTy (call_dictP rfl) (by rfl) ld (by decide +kernel) (pa_cons
            (pe_lc (own := [("_law_name", 3)]) (g := gName 3) (tt := tYes) (te := tTup (tCons (tVar 3) (tCons (tC (.int 1)) tNil))) rfl scOddN.nd (pi_list (pv 0))
              (blkOk_by (N := nOddN) (sc := defScope sOddN) (by decide +kernel)) (fun _ _ _ _ _ => pg_name (i := 3) scOddN.nd rfl (Or.inl rfl)) (fun _ _ _ _ _ => pts_nil)
              (fun _ _ _ _ _ => pe_tup (pa_cons (pv 3) (pa_cons pe_int pa_nil)))) pa_nil))
          (pa_cons (pe_op op_cat (pv 0) (pe_slice sl_list (pv 0) po_none (po_some pe_int))) pa_nil))))))))))))
      (pss_cons (ps_for PassesOwn.never rfl (pi_list (pe_lst (pa_cons pe_str (pa_cons pe_str (pa_cons pe_str (pa_cons pe_str (pa_cons pe_str (pa_cons pe_str (pa_cons pe_non (pa_cons pe_int (pa_cons pe_bl (pa_cons (pe_lst (pa_cons pe_str pa_nil)) (pa_cons (pe_tup (pa_cons pe_str pa_nil)) (pa_cons pe_dnewK pa_nil))))))))))))))
          (pg_name (i := 2) scOddN.nd rfl (Or.inl rfl))
        (pss_one (ps_set (i := 1) scOddN.nd rfl (Or.inl rfl) (pe_op op_cat (pv 1) (pe_lst (pa_cons (pe_lst (pa_cons (pv 2) pa_nil)) (pa_cons (pe_op op_cat (pe_lst (pa_cons (pv 2) pa_nil)) (pv 0)) (pa_cons (pe_op op_cat (pv 0) (pe_lst (pa_cons (pv 2) pa_nil))) pa_nil))))))))
      (pss_one (ps_ret (pv 1)))), ?_⟩
    refine ⟨Nat.zero_le _, fun t1 m1 d1 k1 => ⟨Nat.zero_le _, fun l1 n1 => ?_⟩⟩
    have s3 : Same H (upd (upd (upd H t1 (.tup [])) d1 (.dK [])) l1 (.lst [])) := ((sn m1).trans (sn k1)).trans (sn n1)
    have ft1 : upd (upd (upd H t1 (.tup [])) d1 (.dK [])) l1 (.lst []) t1 = some (.tup []) := (sn n1) _ _ ((sn k1) _ _ upd_same)
    have fd1 : upd (upd (upd H t1 (.tup [])) d1 (.dK [])) l1 (.lst []) d1 = some (.dK []) := (sn n1) _ _ upd_same
    have fl1 : upd (upd (upd H t1 (.tup [])) d1 (.dK [])) l1 (.lst []) l1 = some (.lst []) := upd_same
    generalize upd (upd (upd H t1 (.tup [])) d1 (.dK [])) l1 (.lst []) = H3 at s3 ft1 fd1 fl1 ⊢
    have hn3 := s3 _ _ hn
    refine ⟨_, rfl, n, _, rfl, .inl ⟨SqL.of hn3, fun t2 m2 => ?_⟩⟩
    have s4 : Same H3 (upd H3 t2 (.tup (xs.map V.str))) := sn m2
    have ft2 : upd H3 t2 (.tup (xs.map V.str)) t2 = some (.tup (xs.map V.str)) := upd_same
    generalize upd H3 t2 (.tup (xs.map V.str)) = H4 at s4 ft2 ⊢
    have hn4 := s4 _ _ hn3
    refine ⟨_, rfl, n, rfl, ⟨_, SqL.of hn4⟩, fun D hD => lc_list (K := K) (a := n) (xs := xs.map V.str)
      (fun i H' => ∃ ps : List Addr, H' D = some (.lst (ps.map V.ref)) ∧ Paired (fun p kv => SqT K H' p [kV kv.1, kv.2]) ps ((xs.take i).map fun z => ((Sum.inr z : Key), V.int 1)) ∧ ps.length = i ∧ Same H4 H')
      ⟨[], upd_same, .nil, rfl, sn hD⟩ (fun i H' _ h => by obtain ⟨_, _, _, _, h⟩ := h; exact SqL.of (h _ _ hn4)) ?_ ?_⟩
    · rintro i y H' hi ⟨ps, q1, q2, q3, q4⟩
      rw [List.getElem?_map] at hi
      obtain ⟨z, hz, rfl⟩ := Option.map_eq_some_iff.mp hi
      have lt : i < xs.length := (List.getElem?_eq_some_iff.mp hz).1
      refine ⟨rfl, _, rfl, (show 2 ≤ sizeLine by decide), fun p np => ?_⟩
      have s5 : Same H' (upd H' p (.tup [.str z, .int 1])) := sn np
      have fp : upd H' p (.tup [.str z, .int 1]) p = some (.tup [.str z, .int 1]) := upd_same
      generalize upd H' p (.tup [.str z, .int 1]) = H5 at s5 fp ⊢
      have sD : Same H5 H5 := Same.refl _
      have keepT : ∀ (c : Addr) (ys : List V), SqT K H' c ys → SqT K (upd H5 D (.lst (ps.map V.ref ++ [V.ref p]))) c ys := fun c ys h => by
        rcases h with (h | ⟨o, h⟩) | h
        · refine .inl (.inl ?_)
          rw [upd_ne (fun q => by rw [q, q1] at h; cases h)]
          exact s5 _ _ h
        · refine .inl (.inr ⟨o, ?_⟩)
          rw [upd_ne (fun q => by rw [q, q1] at h; cases h)]
          exact s5 _ _ h
        · exact .inr h
      refine ⟨ps.map V.ref, s5 _ _ q1, small1000 (by rw [List.length_map]; omega), ps ++ [p], by rw [upd_same, List.map_append]; rfl, ?_, by rw [List.length_append, q3]; rfl, fun b o e => ?_⟩
      · have tk : ((xs.take (i + 1)).map fun z => ((Sum.inr z : Key), V.int 1)) = ((xs.take i).map fun z => ((Sum.inr z : Key), V.int 1)) ++ [((Sum.inr z : Key), V.int 1)] := by
          rw [List.take_succ, hz, List.map_append]
          rfl
        rw [tk]
        refine Paired.snoc (Paired.mono (fun c kv h => keepT c _ h) q2) ?_
        refine .inl (.inl ?_)
        rw [upd_ne (fun q => by rw [q, s5 _ _ q1] at fp; cases fp)]
        exact fp
      · rw [upd_ne (ne_of_none e hD)]
        exact s5 _ _ (q4 _ _ e)
    · rintro H5 ⟨ps, q1, q2, _, q4⟩
      refine ⟨D, ps, _, rfl, SqL.of q1, q2, fun d2 k2 => ?_⟩
      generalize hkv : mergeK [] ((xs.take (xs.map V.str).length).map fun z => ((Sum.inr z : Key), V.int 1)) = kvs
      have s6 : Same H5 (upd H5 d2 (.dK kvs)) := sn k2
      have fd2 : upd H5 d2 (.dK kvs) d2 = some (.dK kvs) := upd_same
      generalize upd H5 d2 (.dK kvs) = H6 at s6 fd2 ⊢
      have s36 : Same H3 H6 := (s4.trans q4).trans s6
      have hn6 := s36 _ _ hn3
      refine ⟨_, rfl, _, rfl, _, rfl, n, _, rfl, SqL.of hn6, fun c1 nc1 => ?_⟩
      rw [show cutV (xs.map V.str) none (some (1 : Int)) = (xs.map V.str).take 1 from cut_any (m := 1), ← List.map_take]
      have s7 : Same H6 (upd H6 c1 (.lst ((xs.take 1).map V.str))) := sn nc1
      have fc1 : upd H6 c1 (.lst ((xs.take 1).map V.str)) c1 = some (.lst ((xs.take 1).map V.str)) := upd_same
      generalize upd H6 c1 (.lst ((xs.take 1).map V.str)) = H7 at s7 fc1 ⊢
      refine ⟨n, c1, _, _, rfl, rfl, s7 _ _ hn6, fc1, ?_, fun c2 nc2 => ?_⟩
      · rw [List.length_map, List.length_map, List.length_take]
        exact Nat.le_of_lt (small1000 (by omega))
      rw [← List.map_append]
      have s8 : Same H7 (upd H7 c2 (.lst ((xs ++ xs.take 1).map V.str))) := sn nc2
      have fc2 : upd H7 c2 (.lst ((xs ++ xs.take 1).map V.str)) c2 = some (.lst ((xs ++ xs.take 1).map V.str)) := upd_same
      generalize upd H7 c2 (.lst ((xs ++ xs.take 1).map V.str)) = H8 at s8 fc2 ⊢
      refine ⟨(show 10 ≤ sizeLine by decide), fun L nL => ?_⟩
      have s38 : Same H3 H8 := (s36.trans s7).trans s8
      have hnm := hE.nm
      have dup : (!(xs ++ xs.take 1).isEmpty && decide (xs ++ xs.take 1).Nodup) = false := by
        cases hx : xs with
        | nil => rw [hx] at x1; exact absurd x1 (by decide)
        | cons x r =>
          have nn : ¬ ((x :: r) ++ (x :: r).take 1).Nodup := fun q => (List.nodup_append.mp q).2.2 x List.mem_cons_self x (by simp) rfl
          rw [decide_eq_false nn, Bool.and_false]
      have oc2 : OddV K H8 (.ref c2) := by
        refine ⟨rfl, ?_, "list", true, .base (.lst fc2), by decide +kernel, fun _ => ⟨c2, _, rfl, fc2, by simp; omega, strs_self⟩⟩
        have u : Unl K H8 (.ref c2) (!(xs ++ xs.take 1).isEmpty && decide (xs ++ xs.take 1).Nodup) := .names fc2 (by simp; omega) fun z hz => by
          rcases List.mem_append.mp hz with h | h
          · exact hnm z h
          · exact hnm z (List.mem_of_mem_take h)
        rw [dup] at u
        exact u
      have ol1 : OddV K H8 (.ref l1) := ⟨rfl, (.names (zs := []) (s38 _ _ fl1) (by simp) (fun z hz => nomatch hz) : Unl K H8 (.ref l1) (!([] : List Str).isEmpty && decide ([] : List Str).Nodup)), "list", true, .base (.lst (s38 _ _ fl1)), by decide +kernel, fun _ => ⟨l1, [], rfl, s38 _ _ fl1, by simp, rfl⟩⟩
      have all0 : ∀ v ∈ ([.non, .int 5, .str "ale", .ref t1, .ref d1, .ref l1, .bl true, .ref t2, .ref d2, .ref c2] : List V), OddV K H8 v := by
        intro v hv
        simp only [List.mem_cons, List.not_mem_nil, or_false] at hv
        rcases hv with rfl | rfl | rfl | rfl | rfl | rfl | rfl | rfl | rfl | rfl
        · exact odd_no rfl (.base .non) (by decide +kernel)
        · exact odd_no rfl (.base (.int _)) (by decide +kernel)
        · exact odd_no rfl (.base (.str _)) (by decide +kernel)
        · exact odd_no rfl (.base (.tup (s38 _ _ ft1))) (by decide +kernel)
        · exact odd_no rfl (.base (.dK (s38 _ _ fd1))) (by decide +kernel)
        · exact ol1
        · exact odd_no rfl (.base (.bl _)) (by decide +kernel)
        · exact odd_no rfl (.base (.tup ((((q4.trans s6).trans s7).trans s8) _ _ ft2))) (by decide +kernel)
        · exact odd_no rfl (.base (.dK ((s7.trans s8) _ _ fd2))) (by decide +kernel)
        · exact oc2
      have s9 : Same H8 (upd H8 L (.lst [.non, .int 5, .str "ale", .ref t1, .ref d1, .ref l1, .bl true, .ref t2, .ref d2, .ref c2])) := sn nL
      have fL : upd H8 L (.lst [.non, .int 5, .str "ale", .ref t1, .ref d1, .ref l1, .bl true, .ref t2, .ref d2, .ref c2]) L = some (.lst [.non, .int 5, .str "ale", .ref t1, .ref d1, .ref l1, .bl true, .ref t2, .ref d2, .ref c2]) := upd_same
      have all9 := fun v hv => (all0 v hv).same s9
      have hnL : H L = none := s3.free (s38.free nL)
      generalize upd H8 L (.lst [.non, .int 5, .str "ale", .ref t1, .ref d1, .ref l1, .bl true, .ref t2, .ref d2, .ref c2]) = H9 at s9 fL all9 ⊢
      have s09 : Same H H9 := (s3.trans s38).trans s9
      -- the loop over what is no name
      refine ⟨(show 1 ≤ sizeLine by decide), fun la nla => ⟨(show 1 ≤ sizeLine by decide), fun ta nta da nda => ⟨(show 12 ≤ sizeLine by decide), fun O nO => ?_⟩⟩⟩
      have sa := sn (o := .lst [.str "ale"]) nla
      have sb := sn (o := .tup [.str "ale"]) nta
      have sc := sn (o := .dK []) nda
      have sd := sn (o := .lst [.str "A", .str "", .str "abcdefghi", .str "a b", .str "a1", .str "a\n", .non, .int 5, .bl true, .ref la, .ref ta, .ref da]) nO
      have fa : _ = some (HO.lst [.str "ale"]) := sd _ _ (sc _ _ (sb _ _ (upd_same (H := H9) (a := la))))
      have fb : _ = some (HO.tup [.str "ale"]) := sd _ _ (sc _ _ (upd_same (a := ta)))
      have fc : _ = some (HO.dK []) := sd _ _ (upd_same (a := da))
      have s10 : Same H9 _ := ((sa.trans sb).trans sc).trans sd
      have fO := upd_same (H := upd (upd (upd H9 la (.lst [.str "ale"])) ta (.tup [.str "ale"])) da (.dK [])) (a := O) (o := .lst [.str "A", .str "", .str "abcdefghi", .str "a b", .str "a1", .str "a\n", .non, .int 5, .bl true, .ref la, .ref ta, .ref da])
      generalize upd (upd (upd (upd H9 la (.lst [.str "ale"])) ta (.tup [.str "ale"])) da (.dK [])) O (.lst [.str "A", .str "", .str "abcdefghi", .str "a b", .str "a1", .str "a\n", .non, .int 5, .bl true, .ref la, .ref ta, .ref da]) = H10 at fa fb fc s10 fO ⊢
      have nmS : ∀ z : Str, z.length ≤ 1000 → isNm z = false → Nmb K H10 (.str z) false := fun z hz e => by
        have q : Nmb K H10 (.str z) (isNm z) := .str hz
        rw [e] at q
        exact q
      have odds : ∀ v ∈ ([.str "A", .str "", .str "abcdefghi", .str "a b", .str "a1", .str "a\n", .non, .int 5, .bl true, .ref la, .ref ta, .ref da] : List V), Nmb K H10 v false ∧ selfV v = true := by
        intro v hv
        simp only [List.mem_cons, List.not_mem_nil, or_false] at hv
        rcases hv with rfl | rfl | rfl | rfl | rfl | rfl | rfl | rfl | rfl | rfl | rfl | rfl
        · exact ⟨nmS _ (by decide +kernel) (by decide +kernel), rfl⟩
        · exact ⟨nmS _ (by decide +kernel) (by decide +kernel), rfl⟩
        · exact ⟨nmS _ (by decide +kernel) (by decide +kernel), rfl⟩
        · exact ⟨nmS _ (by decide +kernel) (by decide +kernel), rfl⟩
        · exact ⟨nmS _ (by decide +kernel) (by decide +kernel), rfl⟩
        · exact ⟨nmS _ (by decide +kernel) (by decide +kernel), rfl⟩
        · exact ⟨.not (.base .non) (by decide +kernel), rfl⟩
        · exact ⟨.not (.base (.int _)) (by decide +kernel), rfl⟩
        · exact ⟨.not (.base (.bl _)) (by decide +kernel), rfl⟩
        · exact ⟨.not (.base (.lst fa)) (by decide +kernel), rfl⟩
        · exact ⟨.not (.base (.tup fb)) (by decide +kernel), rfl⟩
        · exact ⟨.not (.base (.dK fc)) (by decide +kernel), rfl⟩
      generalize hod : ([.str "A", .str "", .str "abcdefghi", .str "a b", .str "a1", .str "a\n", .non, .int 5, .bl true, .ref la, .ref ta, .ref da] : List V) = od at fO odds ⊢
      have lod : od.length = 12 := by rw [← hod]; rfl
      have s010 := s09.trans s10
      have hn10 := s010 _ _ hn
      refine ⟨O, rfl, ⟨_, SqL.of fO⟩, for_list (K := K) (a := O) (xs := od) (fun i σ H' => ∃ (o2 : Option V) (M : Addr) (vs : List V), σ = [some (.ref n), some (.ref M), o2, none] ∧ H' M = some (.lst vs) ∧ H M = none ∧ vs.length ≤ 10 + 3 * i ∧ (∀ v ∈ vs, OddV K H' v) ∧ Same H10 H')
        ⟨none, L, _, rfl, s10 _ _ fL, hnL, (by simp), (fun v hv => (all9 v hv).same s10), Same.refl _⟩ (fun i σ H' _ h => by obtain ⟨_, _, _, _, _, _, _, _, h⟩ := h; exact SqL.of (h _ _ fO)) ?_ ?_⟩
      · rintro i y σ H' hi ⟨o2, M, vs, rfl, g1, g2, g3, g4, g5⟩
        obtain ⟨hy, sy⟩ := odds y (List.mem_of_getElem? hi)
        have hi1 : i < 12 := by
          rw [← lod]
          exact (List.getElem?_eq_some_iff.mp hi).1
        have hn' := g5 _ _ hn10
        refine ⟨_, rfl, _, rfl, (show 1 ≤ sizeLine by decide), fun p1 r1 => ?_⟩
        have u1 : Same H' (upd H' p1 (.lst [y])) := sn r1
        have w1 : upd H' p1 (.lst [y]) p1 = some (.lst [y]) := upd_same
        generalize upd H' p1 (.lst [y]) = G1 at u1 w1 ⊢
        refine ⟨_, rfl, (show 1 ≤ sizeLine by decide), fun p2 r2 => ?_⟩
        have u2 : Same G1 (upd G1 p2 (.lst [y])) := sn r2
        have w2 : upd G1 p2 (.lst [y]) p2 = some (.lst [y]) := upd_same
        generalize upd G1 p2 (.lst [y]) = G2 at u2 w2 ⊢
        refine ⟨_, rfl, p2, n, [y], xs.map V.str, rfl, rfl, w2, (u1.trans u2) _ _ hn', ?_, fun p3 r3 => ?_⟩
        · rw [List.length_map]
          exact Nat.le_of_lt (small1000 (by simp; omega))
        have u3 : Same G2 (upd G2 p3 (.lst ([y] ++ xs.map V.str))) := sn r3
        have w3 : upd G2 p3 (.lst ([y] ++ xs.map V.str)) p3 = some (.lst ([y] ++ xs.map V.str)) := upd_same
        generalize upd G2 p3 (.lst ([y] ++ xs.map V.str)) = G3 at u3 w3 ⊢
        refine ⟨_, rfl, _, rfl, (show 1 ≤ sizeLine by decide), fun p4 r4 => ?_⟩
        have u4 : Same G3 (upd G3 p4 (.lst [y])) := sn r4
        have w4 : upd G3 p4 (.lst [y]) p4 = some (.lst [y]) := upd_same
        generalize upd G3 p4 (.lst [y]) = G4 at u4 w4 ⊢
        refine ⟨n, p4, xs.map V.str, [y], rfl, rfl, (((u1.trans u2).trans u3).trans u4) _ _ hn', w4, ?_, fun p5 r5 => ?_⟩
        · rw [List.length_map]
          exact Nat.le_of_lt (small1000 (by simp; omega))
        have u5 : Same G4 (upd G4 p5 (.lst (xs.map V.str ++ [y]))) := sn r5
        have w5 : upd G4 p5 (.lst (xs.map V.str ++ [y])) p5 = some (.lst (xs.map V.str ++ [y])) := upd_same
        generalize upd G4 p5 (.lst (xs.map V.str ++ [y])) = G5 at u5 w5 ⊢
        refine ⟨(show 3 ≤ sizeLine by decide), fun p6 r6 => ?_⟩
        have u6 : Same G5 (upd G5 p6 (.lst [.ref p1, .ref p3, .ref p5])) := sn r6
        have w6 : upd G5 p6 (.lst [.ref p1, .ref p3, .ref p5]) p6 = some (.lst [.ref p1, .ref p3, .ref p5]) := upd_same
        generalize upd G5 p6 (.lst [.ref p1, .ref p3, .ref p5]) = G6 at u6 w6 ⊢
        have u : Same H' G6 := ((((u1.trans u2).trans u3).trans u4).trans u5).trans u6
        refine ⟨M, p6, vs, _, rfl, rfl, u _ _ g1, w6, Nat.le_of_lt (small1000 (by simp; omega)), fun M2 r7 => ?_⟩
        have u7 : Same G6 (upd G6 M2 (.lst (vs ++ [.ref p1, .ref p3, .ref p5]))) := sn r7
        have uu := u.trans u7
        obtain ⟨z1, z2, z3⟩ := odd_three (K := K) (H := upd G6 M2 (.lst (vs ++ [.ref p1, .ref p3, .ref p5]))) (xs := xs) ((hy.same g5).same uu) sy hnm x6 (((((u2.trans u3).trans u4).trans u5).trans u6).trans u7 _ _ w1) ((((u4.trans u5).trans u6).trans u7) _ _ w3) ((u6.trans u7) _ _ w5)
        refine ⟨_, M2, _, rfl, upd_same, s010.free (g5.free (u.free r7)), by simp; omega, fun v hv => ?_, g5.trans uu⟩
        rcases List.mem_append.mp hv with h | h
        · exact (g4 v h).same uu
        · simp only [List.mem_cons, List.not_mem_nil, or_false] at h
          rcases h with rfl | rfl | rfl
          · exact z1
          · exact z2
          · exact z3
      · rintro σ H' ⟨o2, M, vs, rfl, g1, g2, g3, g4, g5⟩
        exact ⟨_, rfl, k M vs H' (s010.trans g5) g2 g1 (by omega) g4⟩
end
end K02

set_option maxHeartbeats 8000000
namespace K02
open PySem PySem.Spec PyProof.Rows L2 G1
/-- what stands where a row should: none of xs, equal to itself -/
structure OddR (K : PySem.W.Frag) (H : Hp) (xs : List Str) (v : V) : Prop where
  self : selfV v = true
  no : RowV K H xs v false
theorem OddR.same {K : PySem.W.Frag} {H H' : Hp} {xs : List Str} {v : V} (h : OddR K H xs v) (s : Same H H') : OddR K H' xs v := ⟨h.self, h.no.same s⟩
theorem oddr_no {K : PySem.W.Frag} {H : Hp} {xs : List Str} {v : V} {T : String} (s : selfV v = true) (t : TyX K H v (.type T)) (k : kitB T "list" = some false) : OddR K H xs v := ⟨s, .no t k⟩
theorem RItL.ofStrs {K : PySem.W.Frag} {H : Hp} (zs : List Str) : RItL K H (zs.map V.str) (zs.map some) := by
  induction zs with
  | nil => exact .nil
  | cons z zs ih => exact .cons (.str z) ih
theorem RItL.append {K : PySem.W.Frag} {H : Hp} {vs ws : List V} {os ps : List (Option Str)} (h : RItL K H vs os) (g : RItL K H ws ps) : RItL K H (vs ++ ws) (os ++ ps) := by
  induction h with
  | nil => exact g
  | cons e _ ih => exact .cons e ih
/-- a list of texts that is no row -/
theorem oddr_strs {K : PySem.W.Frag} {H : Hp} {xs zs : List Str} {l : Addr} (h : H l = some (.lst (zs.map V.str))) (le : zs.length ≤ 60) (no : ¬ zs.Perm xs) : OddR K H xs (.ref l) :=
  ⟨rfl, .lst h (by rw [List.length_map]; exact le) (.ofStrs zs) ⟨(fun q => nomatch q), fun ⟨ws, e, p⟩ => absurd (map_str_inj e ▸ p) no⟩⟩
/-- a list with something that is no text -/
theorem oddr_item {K : PySem.W.Frag} {H : Hp} {xs : List Str} {vs : List V} {os : List (Option Str)} {l : Addr} (h : H l = some (.lst vs)) (le : vs.length ≤ 60) (r : RItL K H vs os) (v : V) (hv : v ∈ vs) (no : ∀ z, v ≠ .str z) : OddR K H xs (.ref l) :=
  ⟨rfl, .lst h le r ⟨(fun q => nomatch q), fun ⟨ws, e, p⟩ => by
    rw [e] at hv
    obtain ⟨z, _, rfl⟩ := List.mem_map.mp hv
    exact absurd rfl (no z)⟩⟩
theorem no_len {zs xs : List Str} (h : zs.length ≠ xs.length) : ¬ zs.Perm xs := fun p => h p.length_eq
theorem no_mem {zs xs : List Str} {z : Str} (h : z ∈ zs) (n : z ∉ xs) : ¬ zs.Perm xs := fun p => n (p.mem_iff.mp h)
theorem no_dup {zs xs : List Str} (hx : xs.Nodup) (h : ¬ zs.Nodup) : ¬ zs.Perm xs := fun p => h (p.nodup_iff.mpr hx)
/-- what is wrong in a row: a text that is no entry, or no text -/
def BadI (K : PySem.W.Frag) (H : Hp) (xs : List Str) (y : V) : Prop := selfV y = true ∧ ((∃ z, y = .str z ∧ z ∉ xs) ∨ (RIt K H y none ∧ ∀ z, y ≠ .str z))
theorem BadI.same {K : PySem.W.Frag} {H H' : Hp} {xs : List Str} {y : V} (h : BadI K H xs y) (s : Same H H') : BadI K H' xs y := by
  obtain ⟨h1, h2⟩ := h
  refine ⟨h1, ?_⟩
  rcases h2 with h | ⟨h, n⟩
  · exact .inl h
  · exact .inr ⟨h.same s, n⟩
theorem oddr_with {K : PySem.W.Frag} {H : Hp} {xs pre post : List Str} {y : V} {l : Addr} (h : H l = some (.lst (pre.map V.str ++ ([y] ++ post.map V.str)))) (le : pre.length + post.length ≤ 50) (b : BadI K H xs y) : OddR K H xs (.ref l) := by
  obtain ⟨_, ⟨z, rfl, hz⟩ | ⟨r, n⟩⟩ := b
  · have e : pre.map V.str ++ ([V.str z] ++ post.map V.str) = (pre ++ ([z] ++ post)).map V.str := by simp
    rw [e] at h
    exact oddr_strs h (by simp; omega) (no_mem (z := z) (by simp) hz)
  · exact oddr_item h (by simp; omega) ((RItL.ofStrs pre).append (.cons r (.ofStrs post))) y (by simp) n
theorem cutV_last {xs : List V} : cutV xs none (some (-1 : Int)) = xs.dropLast := by
  have e : HT.sIx xs.length xs.length (some (-1 : Int)) = xs.length - 1 := by
    unfold HT.sIx
    simp
    omega
  unfold cutV
  rw [e, List.dropLast_eq_take]
  rfl
theorem cutV_one {xs : List V} : cutV xs (some (1 : Int)) (some (2 : Int)) = (xs.drop 1).take 1 := by
  have e1 : HT.sIx xs.length 0 (some (1 : Int)) = min 1 xs.length := by
    unfold HT.sIx
    simp
  have e2 : HT.sIx xs.length xs.length (some (2 : Int)) = min 2 xs.length := by
    unfold HT.sIx
    simp
  unfold cutV
  rw [e1, e2]
  match xs with
  | [] => rfl
  | [_] => rfl
  | _ :: _ :: _ => simp
theorem same_del {A H' : Hp} {D : Addr} (s : Same A H') (n : A D = none) : Same A (delH H' D) := fun b o e => by
  rw [delH_ne (ne_of_none e n)]
  exact s b o e
theorem del_sub {H : Hp} {l : Addr} : Same (delH H l) H := fun b o e => by
  by_cases q : b = l
  · rw [q, delH_same] at e
    cases e
  · rw [delH_ne q] at e
    exact e
theorem del_mono {H H' : Hp} {l : Addr} (s : Same H H') : Same (delH H l) (delH H' l) := fun b o e => by
  by_cases q : b = l
  · rw [q, delH_same] at e
    cases e
  · rw [delH_ne q] at e ⊢
    exact s b o e
theorem del_upd {H : Hp} {l : Addr} {o : HO} : Same (delH H l) (delH (upd H l o) l) := fun b u e => by
  by_cases q : b = l
  · rw [q, delH_same] at e
    cases e
  · rw [delH_ne q] at e ⊢
    rw [upd_ne q]
    exact e
def spOddR (K : PySem.W.Frag) : Sp := fun vs H Q _ => ∃ (n R : Addr) (xs : List Str) (as : List Addr) (rs : List (List Str)), vs = [.ref n, .ref R] ∧ H n = some (.lst (xs.map V.str)) ∧ Ents xs ∧ 1 ≤ xs.length ∧ xs.length ≤ 6 ∧ H R = some (.lst (as.map V.ref)) ∧ RowsAt H as rs ∧ (∀ r ∈ rs, r.Perm xs) ∧ 1 ≤ rs.length ∧ rs.length ≤ 4 ∧
  ∀ (D : Addr) (vs : List V) (H' : Hp), Same H H' → H D = none → H' D = some (.lst vs) → vs.length ≤ 100 → (∀ v ∈ vs, OddR K H' xs v) → Q (.ref D) H'
theorem cutV_from {xs : List V} (h : 1 ≤ xs.length) : cutV xs (some (1 : Int)) none = xs.drop 1 := by
  have e : HT.sIx xs.length 0 (some (1 : Int)) = 1 := by
    unfold HT.sIx
    simp
    omega
  have e2 : HT.sIx xs.length xs.length none = xs.length := rfl
  unfold cutV
  rw [e, e2]
  exact List.take_of_length_le (by rw [List.length_drop]; exact Nat.le_refl _)
section
variable {P : Program} {w : World} {K : PySem.W.Frag} {mg : Str → Option Value} {base : Heap}
abbrev sOddR : Stmt := top 27
abbrev nOddR : List Str := ["_law_names_here", "_law_rows", "_law_row", "_law_some", "_law_strange_here", "_law_name", "_law_odd", "_law_at"]
theorem scOddR : FnScope nOddR ["_law_names_here", "_law_rows"] (defScope sOddR) := ⟨rfl, rfl, rfl, by decide +kernel, rfl, by decide +kernel, by decide +kernel⟩
theorem ok_oddR {f fS : Addr} {fd fdS : FuncData} (F : FnP K "_law_odd_rows" sOddR f fd) (LP : LibP mg) (lt : mg "tuple" = none) (ld : mg "dict" = none) (FS : FnP K "_law_strange" sStrange fS fdS) (gS : mg "_law_strange" = some (.ref fS))
    (GS : FnOk P w K mg base CX0 1 fS fdS ["_law_names_here"] (spStrange K)) : FnOk P w K mg base CX0 2 f fd ["_law_names_here", "_law_rows"] (spOddR K) := by
  have bS : Binds K fdS ["_law_names_here"] [] := FS.bindsN fun _ _ _ _ _ _ us hl => match us, hl with | [_], _ => rfl
  refine okN F scOddR (fun vs H Q E h => ?_) (fun cdv A outer s H vs Q E hr h => ?_)
  · obtain ⟨_, _, _, _, _, rfl, _⟩ := h
    rfl
  · obtain ⟨n, R, xs, as, rs, rfl, hn, hE, x1, x6, hR, hra, hrp, r1, r4, k⟩ := h
    refine ⟨_, pss_cons (ps_set (i := 2) scOddR.nd rfl (Or.inr rfl) (pe_callTy call_list_of (by rfl) LP.list (by decide +kernel) (pa_cons (pe_ix ix_list (pv 1) pe_int (fun _ _ => rfl)) pa_nil)))
      (pss_cons (ps_set (i := 3) scOddR.nd rfl (Or.inl rfl) (pe_lst (pa_cons pe_non (pa_cons pe_int (pa_cons pe_str (pa_cons (pe_tup pa_nil) (pa_cons pe_dnewK (pa_cons (pe_lst pa_nil) (pa_cons pe_bl
          (pa_cons (pe_callTy call_tuple_of (by rfl) lt (by decide +kernel) (pa_cons (pv 2) pa_nil))
          (pa_cons (pe_callTy (call_dictP rfl) (by rfl) ld (by decide +kernel) (pa_cons
            (pe_lc (own := [("_law_name", 5)]) (g := gName 5) (tt := tYes) (te := tTup (tCons (tVar 5) (tCons (tC (.int 1)) tNil))) rfl scOddR.nd (pi_list (pv 2))
              (blkOk_by (N := nOddR) (sc := defScope sOddR) (by decide +kernel)) (fun _ _ _ _ _ => pg_name (i := 5) scOddR.nd rfl (Or.inl rfl)) (fun _ _ _ _ _ => pts_nil)
              (fun _ _ _ _ _ => pe_tup (pa_cons (pv 5) (pa_cons pe_int pa_nil)))) pa_nil))
          (pa_cons (pe_op op_cat (pv 2) (pe_slice sl_list (pv 2) po_none (po_some pe_int))) (pa_cons (pe_slice sl_list (pv 2) (po_some pe_int) po_none) pa_nil)))))))))))))
      (pss_cons (ps_set (i := 3) scOddR.nd rfl (Or.inl rfl) (pe_op op_cat (pv 3)
          (pe_lc (own := [("_law_odd", 6)]) (g := gName 6) (tt := tYes) (te := tOp rCat (tSl (rSlL K) (tVar 2) (tPart (tC (.int 1))) tNoPart) (tLst (tCons (tVar 6) tNil))) rfl scOddR.nd
            (pi_list (pe_lst (pa_cons pe_str (pa_cons pe_str (pa_cons pe_str (pa_cons pe_non (pa_cons pe_int (pa_cons pe_bl (pa_cons (pe_lst (pa_cons pe_str pa_nil)) (pa_cons pe_dnewK pa_nil))))))))))
            (blkOk_by (N := nOddR) (sc := defScope sOddR) (by decide +kernel)) (fun _ _ _ _ _ => pg_name (i := 6) scOddR.nd rfl (Or.inl rfl)) (fun _ _ _ _ _ => pts_nil)
            (fun _ _ _ _ _ => pe_op op_cat (pe_slice sl_list (pv 2) (po_some pe_int) po_none) (pe_lst (pa_cons (pv 6) pa_nil))))))
      (pss_cons (ps_set (i := 4) scOddR.nd rfl (Or.inl rfl) (pe_call GS hr (by rfl) gS FS.kp bS .nil pass0 (pa_cons (pv 0) pa_nil)))
      (pss_cons (ps_set (i := 3) scOddR.nd rfl (Or.inl rfl) (pe_op op_cat (pe_op op_cat (pv 3) (pe_lst (pa_cons (pe_op op_cat (pe_slice sl_list (pv 2) (po_some pe_int) po_none) (pe_lst (pa_cons (pv 4) pa_nil)))
          (pa_cons (pe_op op_cat (pe_lst (pa_cons (pv 4) pa_nil)) (pe_slice sl_list (pv 2) (po_some pe_int) po_none)) (pa_cons (pe_op op_cat (pv 2) (pe_lst (pa_cons (pv 4) pa_nil))) pa_nil)))))
          (pe_lc (own := [("_law_at", 7)]) (g := gName 7) (tt := tYes) (te := tOp rCat (tSl (rSlL K) (tVar 2) tNoPart (tPart (tUn (rU fun i => .int (-i)) (tC (.int 1))))) (tSl (rSlL K) (tVar 2) tNoPart (tPart (tC (.int 1))))) rfl scOddR.nd
            (pi_list (pe_slice sl_list (pv 2) (po_some pe_int) (po_some pe_int)))
            (blkOk_by (N := nOddR) (sc := defScope sOddR) (by decide +kernel)) (fun _ _ _ _ _ => pg_name (i := 7) scOddR.nd rfl (Or.inl rfl)) (fun _ _ _ _ _ => pts_nil)
            (fun _ _ _ _ _ => pe_op op_cat (pe_slice sl_list (pv 2) po_none (po_some (pe_un un_neg pe_int))) (pe_slice sl_list (pv 2) po_none (po_some pe_int))))))
      (pss_one (ps_ret (pe_op op_cat (pv 3) (pe_lst (pa_cons (pe_op op_cat (pe_lst (pa_cons pe_non pa_nil)) (pe_slice sl_list (pv 2) (po_some pe_int) po_none)) (pa_cons (pe_op op_cat (pv 2) (pe_lst (pa_cons pe_str pa_nil))) (pa_cons (pe_lst (pa_cons (pv 2) pa_nil)) pa_nil))))))))))), ?_⟩
    obtain ⟨r0, rs', rfl⟩ : ∃ r0 rs', rs = r0 :: rs' := by
      cases rs with
      | nil => exact absurd r1 (by decide)
      | cons r0 rs' => exact ⟨r0, rs', rfl⟩
    have p0 := hrp r0 List.mem_cons_self
    have l0 := p0.length_eq
    have n0 : r0.Nodup := p0.nodup_iff.mpr hE.nd
    cases hra with
    | @cons a0 _ as' _ ha0 hrest =>
    refine ⟨_, rfl, R, _, 0, .ref a0, rfl, rfl, SqL.of hR, atI_nat (show ((a0 :: as').map V.ref)[0]? = some (V.ref a0) from rfl), a0, _, rfl, .inl (SqL.of ha0), fun W nW => ?_⟩
    have s1 : Same H (upd H W (.lst (r0.map V.str))) := sn nW
    have fW : upd H W (.lst (r0.map V.str)) W = some (.lst (r0.map V.str)) := upd_same
    generalize upd H W (.lst (r0.map V.str)) = H1 at s1 fW ⊢
    have hd1 : ∀ H', Same H1 H' → SqL K H' W (r0.map V.str) := fun H' s => SqL.of (s _ _ fW)
    refine ⟨Nat.zero_le _, fun t1 m1 d1 k1 => ⟨Nat.zero_le _, fun l1 n1 => ?_⟩⟩
    have s3 : Same H1 (upd (upd (upd H1 t1 (.tup [])) d1 (.dK [])) l1 (.lst [])) := ((sn m1).trans (sn k1)).trans (sn n1)
    have ft1 : upd (upd (upd H1 t1 (.tup [])) d1 (.dK [])) l1 (.lst []) t1 = some (.tup []) := (sn n1) _ _ ((sn k1) _ _ upd_same)
    have fd1 : upd (upd (upd H1 t1 (.tup [])) d1 (.dK [])) l1 (.lst []) d1 = some (.dK []) := (sn n1) _ _ upd_same
    have fl1 : upd (upd (upd H1 t1 (.tup [])) d1 (.dK [])) l1 (.lst []) l1 = some (.lst []) := upd_same
    generalize upd (upd (upd H1 t1 (.tup [])) d1 (.dK [])) l1 (.lst []) = H3 at s3 ft1 fd1 fl1 ⊢
    refine ⟨_, rfl, W, _, rfl, .inl ⟨hd1 _ s3, fun t2 m2 => ?_⟩⟩
    have s4 : Same H3 (upd H3 t2 (.tup (r0.map V.str))) := sn m2
    have ft2 : upd H3 t2 (.tup (r0.map V.str)) t2 = some (.tup (r0.map V.str)) := upd_same
    generalize upd H3 t2 (.tup (r0.map V.str)) = H4 at s4 ft2 ⊢
    have fW4 := (s3.trans s4) _ _ fW
    refine ⟨_, rfl, W, rfl, ⟨_, SqL.of fW4⟩, fun D hD => lc_list (K := K) (a := W) (xs := r0.map V.str)
      (fun i H' => ∃ ps : List Addr, H' D = some (.lst (ps.map V.ref)) ∧ Paired (fun p kv => SqT K H' p [kV kv.1, kv.2]) ps ((r0.take i).map fun z => ((Sum.inr z : Key), V.int 1)) ∧ ps.length = i ∧ Same H4 H')
      ⟨[], upd_same, .nil, rfl, sn hD⟩ (fun i H' _ h => by obtain ⟨_, _, _, _, h⟩ := h; exact SqL.of (h _ _ fW4)) ?_ ?_⟩
    · rintro i y H' hi ⟨ps, q1, q2, q3, q4⟩
      rw [List.getElem?_map] at hi
      obtain ⟨z, hz, rfl⟩ := Option.map_eq_some_iff.mp hi
      have lt : i < r0.length := (List.getElem?_eq_some_iff.mp hz).1
      refine ⟨rfl, _, rfl, (show 2 ≤ sizeLine by decide), fun p np => ?_⟩
      have s5 : Same H' (upd H' p (.tup [.str z, .int 1])) := sn np
      have fp : upd H' p (.tup [.str z, .int 1]) p = some (.tup [.str z, .int 1]) := upd_same
      generalize upd H' p (.tup [.str z, .int 1]) = H5 at s5 fp ⊢
      have keepT : ∀ (c : Addr) (ys : List V), SqT K H' c ys → SqT K (upd H5 D (.lst (ps.map V.ref ++ [V.ref p]))) c ys := fun c ys h => by
        rcases h with (h | ⟨o, h⟩) | h
        · refine .inl (.inl ?_)
          rw [upd_ne (fun q => by rw [q, q1] at h; cases h)]
          exact s5 _ _ h
        · refine .inl (.inr ⟨o, ?_⟩)
          rw [upd_ne (fun q => by rw [q, q1] at h; cases h)]
          exact s5 _ _ h
        · exact .inr h
      refine ⟨ps.map V.ref, s5 _ _ q1, small1000 (by rw [List.length_map]; omega), ps ++ [p], by rw [upd_same, List.map_append]; rfl, ?_, by rw [List.length_append, q3]; rfl, fun b o e => ?_⟩
      · have tk : ((r0.take (i + 1)).map fun z => ((Sum.inr z : Key), V.int 1)) = ((r0.take i).map fun z => ((Sum.inr z : Key), V.int 1)) ++ [((Sum.inr z : Key), V.int 1)] := by
          rw [List.take_succ, hz, List.map_append]
          rfl
        rw [tk]
        refine Paired.snoc (Paired.mono (fun c kv h => keepT c _ h) q2) ?_
        refine .inl (.inl ?_)
        rw [upd_ne (fun q => by rw [q, s5 _ _ q1] at fp; cases fp)]
        exact fp
      · rw [upd_ne (ne_of_none e hD)]
        exact s5 _ _ (q4 _ _ e)
    · rintro H5 ⟨ps, q1, q2, _, q4⟩
      refine ⟨D, ps, _, rfl, SqL.of q1, q2, fun d2 k2 => ?_⟩
      generalize hkv : mergeK [] ((r0.take (r0.map V.str).length).map fun z => ((Sum.inr z : Key), V.int 1)) = kvs
      have s6 : Same H5 (upd H5 d2 (.dK kvs)) := sn k2
      have fd2 : upd H5 d2 (.dK kvs) d2 = some (.dK kvs) := upd_same
      generalize upd H5 d2 (.dK kvs) = H6 at s6 fd2 ⊢
      have s36 : Same H3 H6 := (s4.trans q4).trans s6
      have fW6 := (s3.trans s36) _ _ fW
      refine ⟨_, rfl, _, rfl, _, rfl, W, _, rfl, SqL.of fW6, fun c1 nc1 => ?_⟩
      rw [show cutV (r0.map V.str) none (some (1 : Int)) = (r0.map V.str).take 1 from cut_any (m := 1), ← List.map_take]
      have s7 : Same H6 (upd H6 c1 (.lst ((r0.take 1).map V.str))) := sn nc1
      have fc1 : upd H6 c1 (.lst ((r0.take 1).map V.str)) c1 = some (.lst ((r0.take 1).map V.str)) := upd_same
      generalize upd H6 c1 (.lst ((r0.take 1).map V.str)) = H7 at s7 fc1 ⊢
      refine ⟨W, c1, _, _, rfl, rfl, s7 _ _ fW6, fc1, ?_, fun c2 nc2 => ?_⟩
      · rw [List.length_map, List.length_map, List.length_take]
        exact Nat.le_of_lt (small1000 (by omega))
      rw [← List.map_append]
      have s8 : Same H7 (upd H7 c2 (.lst ((r0 ++ r0.take 1).map V.str))) := sn nc2
      have fc2 : upd H7 c2 (.lst ((r0 ++ r0.take 1).map V.str)) c2 = some (.lst ((r0 ++ r0.take 1).map V.str)) := upd_same
      generalize upd H7 c2 (.lst ((r0 ++ r0.take 1).map V.str)) = H8 at s8 fc2 ⊢
      have fW8 := (s7.trans s8) _ _ fW6
      refine ⟨_, rfl, _, rfl, W, _, rfl, SqL.of fW8, fun c3 nc3 => ?_⟩
      rw [cutV_from (by rw [List.length_map]; omega), ← List.map_drop]
      have s9 : Same H8 (upd H8 c3 (.lst ((r0.drop 1).map V.str))) := sn nc3
      have fc3 : upd H8 c3 (.lst ((r0.drop 1).map V.str)) c3 = some (.lst ((r0.drop 1).map V.str)) := upd_same
      generalize upd H8 c3 (.lst ((r0.drop 1).map V.str)) = H9 at s9 fc3 ⊢
      refine ⟨(show 11 ≤ sizeLine by decide), fun L nL => ?_⟩
      have s09 : Same H3 H9 := ((s36.trans s7).trans s8).trans s9
      have x0 : ∀ v ∈ ([.non, .int 5, .str "ale", .ref t1, .ref d1, .ref l1, .bl true, .ref t2, .ref d2, .ref c2, .ref c3] : List V), OddR K H9 xs v := by
        intro v hv
        simp only [List.mem_cons, List.not_mem_nil, or_false] at hv
        rcases hv with rfl | rfl | rfl | rfl | rfl | rfl | rfl | rfl | rfl | rfl | rfl
        · exact oddr_no rfl (.base .non) (by decide +kernel)
        · exact oddr_no rfl (.base (.int _)) (by decide +kernel)
        · exact oddr_no rfl (.base (.str _)) (by decide +kernel)
        · exact oddr_no rfl (.base (.tup (s09 _ _ ft1))) (by decide +kernel)
        · exact oddr_no rfl (.base (.dK (s09 _ _ fd1))) (by decide +kernel)
        · exact oddr_strs (zs := []) (s09 _ _ fl1) (by simp) (no_len (by simp; omega))
        · exact oddr_no rfl (.base (.bl _)) (by decide +kernel)
        · exact oddr_no rfl (.base (.tup ((((((q4.trans s6).trans s7).trans s8).trans s9)) _ _ ft2))) (by decide +kernel)
        · exact oddr_no rfl (.base (.dK (((s7.trans s8).trans s9) _ _ fd2))) (by decide +kernel)
        · exact oddr_strs (s9 _ _ fc2) (by simp; omega) (no_len (by simp; omega))
        · exact oddr_strs fc3 (by simp; omega) (no_len (by simp; omega))
      have s10 : Same H9 (upd H9 L (.lst [.non, .int 5, .str "ale", .ref t1, .ref d1, .ref l1, .bl true, .ref t2, .ref d2, .ref c2, .ref c3])) := sn nL
      have fL : upd H9 L (.lst [.non, .int 5, .str "ale", .ref t1, .ref d1, .ref l1, .bl true, .ref t2, .ref d2, .ref c2, .ref c3]) L = some (.lst [.non, .int 5, .str "ale", .ref t1, .ref d1, .ref l1, .bl true, .ref t2, .ref d2, .ref c2, .ref c3]) := upd_same
      have y0 := fun v hv => (x0 v hv).same s10
      generalize upd H9 L (.lst [.non, .int 5, .str "ale", .ref t1, .ref d1, .ref l1, .bl true, .ref t2, .ref d2, .ref c2, .ref c3]) = H10 at s10 fL y0 ⊢
      generalize hv0 : ([.non, .int 5, .str "ale", .ref t1, .ref d1, .ref l1, .bl true, .ref t2, .ref d2, .ref c2, .ref c3] : List V) = v0 at fL y0
      have lv0 : v0.length = 11 := by rw [← hv0]; rfl
      have fW10 := ((s9.trans s10)) _ _ fW8
      -- one thing behind the row's rest
      refine ⟨_, rfl, (show 1 ≤ sizeLine by decide), fun la nla da nda => ⟨(show 8 ≤ sizeLine by decide), fun O nO => ?_⟩⟩
      have sa := sn (o := .lst [.str "ale"]) nla
      have sb := sn (o := .dK []) nda
      have sc := sn (o := .lst [.str "zzzzzzzzz", .str "A", .str "", .non, .int 5, .bl true, .ref la, .ref da]) nO
      have fa : _ = some (HO.lst [.str "ale"]) := sc _ _ (sb _ _ (upd_same (H := H10) (a := la)))
      have fb : _ = some (HO.dK []) := sc _ _ (upd_same (a := da))
      have s11 : Same H10 _ := (sa.trans sb).trans sc
      have fO := upd_same (H := upd (upd H10 la (.lst [.str "ale"])) da (.dK [])) (a := O) (o := .lst [.str "zzzzzzzzz", .str "A", .str "", .non, .int 5, .bl true, .ref la, .ref da])
      generalize upd (upd (upd H10 la (.lst [.str "ale"])) da (.dK [])) O (.lst [.str "zzzzzzzzz", .str "A", .str "", .non, .int 5, .bl true, .ref la, .ref da]) = H11 at fa fb s11 fO ⊢
      have bad : ∀ v ∈ ([.str "zzzzzzzzz", .str "A", .str "", .non, .int 5, .bl true, .ref la, .ref da] : List V), BadI K H11 xs v := by
        have nm : ∀ z : Str, isNm z = false → BadI K H11 xs (.str z) := fun z e => ⟨rfl, .inl ⟨z, rfl, fun h => by
          rw [isNm_iff.mpr (hE.nm z h)] at e
          cases e⟩⟩
        intro v hv
        simp only [List.mem_cons, List.not_mem_nil, or_false] at hv
        rcases hv with rfl | rfl | rfl | rfl | rfl | rfl | rfl | rfl
        · exact nm _ (by decide +kernel)
        · exact nm _ (by decide +kernel)
        · exact nm _ (by decide +kernel)
        · exact ⟨rfl, .inr ⟨.non, fun z q => nomatch q⟩⟩
        · exact ⟨rfl, .inr ⟨.int _, fun z q => nomatch q⟩⟩
        · exact ⟨rfl, .inr ⟨.bl _, fun z q => nomatch q⟩⟩
        · exact ⟨rfl, .inr ⟨.lst fa, fun z q => nomatch q⟩⟩
        · exact ⟨rfl, .inr ⟨.dK fb, fun z q => nomatch q⟩⟩
      generalize hod : ([.str "zzzzzzzzz", .str "A", .str "", .non, .int 5, .bl true, .ref la, .ref da] : List V) = od at fO bad ⊢
      have lod : od.length = 8 := by rw [← hod]; rfl
      have fW11 := s11 _ _ fW10
      refine ⟨O, rfl, ⟨_, SqL.of fO⟩, fun D3 hD3 => lc_list (K := K) (a := O) (xs := od) (fun i H' => ∃ vs : List V, H' D3 = some (.lst vs) ∧ vs.length = i ∧ (∀ v ∈ vs, OddR K (delH H' D3) xs v) ∧ Same H11 H')
        ⟨[], upd_same, rfl, (fun v hv => nomatch hv), sn hD3⟩ (fun i H' _ h => by obtain ⟨_, _, _, _, h⟩ := h; exact SqL.of (h _ _ fO)) ?_ ?_⟩
      · rintro i y H' hi ⟨vs, g1, g2, g3, g4⟩
        have by1 := bad y (List.mem_of_getElem? hi)
        have hi1 : i < 8 := by
          rw [← lod]
          exact (List.getElem?_eq_some_iff.mp hi).1
        have fW' := g4 _ _ fW11
        refine ⟨rfl, _, rfl, _, rfl, W, _, rfl, SqL.of fW', fun p1 r1 => ?_⟩
        rw [cutV_from (by rw [List.length_map]; omega), ← List.map_drop]
        have u1 : Same H' (upd H' p1 (.lst ((r0.drop 1).map V.str))) := sn r1
        have w1 : upd H' p1 (.lst ((r0.drop 1).map V.str)) p1 = some (.lst ((r0.drop 1).map V.str)) := upd_same
        generalize upd H' p1 (.lst ((r0.drop 1).map V.str)) = G1 at u1 w1 ⊢
        refine ⟨_, rfl, (show 1 ≤ sizeLine by decide), fun p2 r2 => ?_⟩
        have u2 : Same G1 (upd G1 p2 (.lst [y])) := sn r2
        have w2 : upd G1 p2 (.lst [y]) p2 = some (.lst [y]) := upd_same
        generalize upd G1 p2 (.lst [y]) = G2 at u2 w2 ⊢
        refine ⟨p1, p2, _, [y], rfl, rfl, u2 _ _ w1, w2, ?_, fun p3 r3 => ?_⟩
        · rw [List.length_map]
          exact Nat.le_of_lt (small1000 (by simp; omega))
        have u3 : Same G2 (upd G2 p3 (.lst ((r0.drop 1).map V.str ++ [y]))) := sn r3
        have w3 : upd G2 p3 (.lst ((r0.drop 1).map V.str ++ [y])) p3 = some (.lst ((r0.drop 1).map V.str ++ [y])) := upd_same
        generalize upd G2 p3 (.lst ((r0.drop 1).map V.str ++ [y])) = G3 at u3 w3 ⊢
        have u := (u1.trans u2).trans u3
        have gD := u _ _ g1
        have n3 : p3 ≠ D3 := fun q => by
          rw [q] at r3
          rw [(u1.trans u2) _ _ g1] at r3
          cases r3
        refine ⟨vs, gD, small1000 (by omega), vs ++ [.ref p3], upd_same, by rw [List.length_append, g2]; rfl, fun v hv => ?_, fun b o e => ?_⟩
        · rcases List.mem_append.mp hv with h | h
          · exact ((g3 v h).same (del_mono u)).same del_upd
          · rw [List.mem_singleton.mp h]
            refine OddR.same (oddr_with (pre := r0.drop 1) (post := []) (H := delH G3 D3) (y := y) ?_ (by simp; omega) (by1.same (same_del (g4.trans u) hD3))) del_upd
            rw [delH_ne n3, w3]
            rfl
        · rw [upd_ne (ne_of_none e hD3)]
          exact u _ _ (g4 _ _ e)
      · rintro H12 ⟨v1, g1, g2, g3, g4⟩
        have g3' : ∀ v ∈ v1, OddR K H12 xs v := fun v hv => (g3 v hv).same del_sub
        rw [lod] at g2
        have s112 := s11.trans g4
        refine ⟨L, D3, v0, v1, rfl, rfl, s112 _ _ fL, g1, Nat.le_of_lt (small1000 (by omega)), fun L2 nL2 => ?_⟩
        have s13 : Same H12 (upd H12 L2 (.lst (v0 ++ v1))) := sn nL2
        have fL2 : upd H12 L2 (.lst (v0 ++ v1)) L2 = some (.lst (v0 ++ v1)) := upd_same
        have y1 : ∀ v ∈ v0 ++ v1, OddR K (upd H12 L2 (.lst (v0 ++ v1))) xs v := fun v hv => by
          rcases List.mem_append.mp hv with h | h
          · exact ((y0 v h).same s112).same s13
          · exact (g3' v h).same s13
        have lv1 : (v0 ++ v1).length = 19 := by rw [List.length_append, lv0, g2]
        generalize upd H12 L2 (.lst (v0 ++ v1)) = H13 at s13 fL2 y1 ⊢
        generalize v0 ++ v1 = v2 at fL2 y1 lv1
        have s113 : Same H1 H13 := (((s3.trans s09).trans s10).trans s112).trans s13
        have fW13 := s113 _ _ fW
        refine ⟨_, rfl, n, xs, rfl, SqL.of ((s1.trans s113) _ _ hn), x6, hE.st, fun z H14 hz s14 => ?_⟩
        have fW14 := s14 _ _ fW13
        refine ⟨_, rfl, ?_⟩
        refine ⟨_, rfl, _, rfl, W, _, rfl, SqL.of (fW14), fun p1 q1 => ?_⟩
        rw [cutV_from (by rw [List.length_map]; omega), ← List.map_drop]
        have a1 : Same H14 (upd H14 p1 (.lst ((r0.drop 1).map V.str))) := sn q1
        have b1 : upd H14 p1 (.lst ((r0.drop 1).map V.str)) p1 = some (.lst ((r0.drop 1).map V.str)) := upd_same
        generalize upd H14 p1 (.lst ((r0.drop 1).map V.str)) = J1 at a1 b1 ⊢
        refine ⟨_, rfl, (show 1 ≤ sizeLine by decide), fun p2 q2 => ?_⟩
        have a2 : Same J1 (upd J1 p2 (.lst [.str z])) := sn q2
        have b2 : upd J1 p2 (.lst [.str z]) p2 = some (.lst [.str z]) := upd_same
        generalize upd J1 p2 (.lst [.str z]) = J2 at a2 b2 ⊢
        refine ⟨p1, p2, _, _, rfl, rfl, a2 _ _ b1, b2, ?_, fun p3 q3 => ?_⟩
        · exact Nat.le_of_lt (small1000 (by simp; omega))
        have a3 : Same J2 (upd J2 p3 (.lst ((r0.drop 1).map V.str ++ [.str z]))) := sn q3
        have b3 : upd J2 p3 (.lst ((r0.drop 1).map V.str ++ [.str z])) p3 = some (.lst ((r0.drop 1).map V.str ++ [.str z])) := upd_same
        generalize upd J2 p3 (.lst ((r0.drop 1).map V.str ++ [.str z])) = J3 at a3 b3 ⊢
        have t03 := (a1.trans a2).trans a3
        refine ⟨_, rfl, (show 1 ≤ sizeLine by decide), fun p4 q4 => ?_⟩
        have a4 : Same J3 (upd J3 p4 (.lst [.str z])) := sn q4
        have b4 : upd J3 p4 (.lst [.str z]) p4 = some (.lst [.str z]) := upd_same
        generalize upd J3 p4 (.lst [.str z]) = J4 at a4 b4 ⊢
        refine ⟨_, rfl, _, rfl, W, _, rfl, SqL.of ((t03.trans a4) _ _ fW14), fun p5 q5 => ?_⟩
        rw [cutV_from (by rw [List.length_map]; omega), ← List.map_drop]
        have a5 : Same J4 (upd J4 p5 (.lst ((r0.drop 1).map V.str))) := sn q5
        have b5 : upd J4 p5 (.lst ((r0.drop 1).map V.str)) p5 = some (.lst ((r0.drop 1).map V.str)) := upd_same
        generalize upd J4 p5 (.lst ((r0.drop 1).map V.str)) = J5 at a5 b5 ⊢
        refine ⟨p4, p5, _, _, rfl, rfl, a5 _ _ b4, b5, ?_, fun p6 q6 => ?_⟩
        · exact Nat.le_of_lt (small1000 (by simp; omega))
        have a6 : Same J5 (upd J5 p6 (.lst ([.str z] ++ (r0.drop 1).map V.str))) := sn q6
        have b6 : upd J5 p6 (.lst ([.str z] ++ (r0.drop 1).map V.str)) p6 = some (.lst ([.str z] ++ (r0.drop 1).map V.str)) := upd_same
        generalize upd J5 p6 (.lst ([.str z] ++ (r0.drop 1).map V.str)) = J6 at a6 b6 ⊢
        have t06 := ((t03.trans a4).trans a5).trans a6
        refine ⟨_, rfl, _, rfl, (show 1 ≤ sizeLine by decide), fun p7 q7 => ?_⟩
        have a7 : Same J6 (upd J6 p7 (.lst [.str z])) := sn q7
        have b7 : upd J6 p7 (.lst [.str z]) p7 = some (.lst [.str z]) := upd_same
        generalize upd J6 p7 (.lst [.str z]) = J7 at a7 b7 ⊢
        refine ⟨W, p7, _, _, rfl, rfl, (t06.trans a7) _ _ fW14, b7, ?_, fun p8 q8 => ?_⟩
        · exact Nat.le_of_lt (small1000 (by simp; omega))
        have a8 : Same J7 (upd J7 p8 (.lst (r0.map V.str ++ [.str z]))) := sn q8
        have b8 : upd J7 p8 (.lst (r0.map V.str ++ [.str z])) p8 = some (.lst (r0.map V.str ++ [.str z])) := upd_same
        generalize upd J7 p8 (.lst (r0.map V.str ++ [.str z])) = J8 at a8 b8 ⊢
        refine ⟨(show 3 ≤ sizeLine by decide), fun p9 q9 => ?_⟩
        have a9 : Same J8 (upd J8 p9 (.lst [.ref p3, .ref p6, .ref p8])) := sn q9
        have b9 : upd J8 p9 (.lst [.ref p3, .ref p6, .ref p8]) p9 = some (.lst [.ref p3, .ref p6, .ref p8]) := upd_same
        generalize upd J8 p9 (.lst [.ref p3, .ref p6, .ref p8]) = J9 at a9 b9 ⊢
        have t09 := ((t06.trans a7).trans a8).trans a9
        refine ⟨L2, p9, v2, _, rfl, rfl, (s14.trans t09) _ _ fL2, b9, Nat.le_of_lt (small1000 (by simp; omega)), fun L3 q10 => ?_⟩
        have a10 : Same J9 (upd J9 L3 (.lst (v2 ++ [.ref p3, .ref p6, .ref p8]))) := sn q10
        have b10 : upd J9 L3 (.lst (v2 ++ [.ref p3, .ref p6, .ref p8])) L3 = some (.lst (v2 ++ [.ref p3, .ref p6, .ref p8])) := upd_same
        generalize upd J9 L3 (.lst (v2 ++ [.ref p3, .ref p6, .ref p8])) = J10 at a10 b10 ⊢
        have t010 := t09.trans a10
        have bz : ∀ H', BadI K H' xs (.str z) := fun H' => ⟨rfl, .inl ⟨z, rfl, hz⟩⟩
        have y3 : ∀ v ∈ v2 ++ [.ref p3, .ref p6, .ref p8], OddR K J10 xs v := fun v hv => by
          rcases List.mem_append.mp hv with h | h
          · exact ((y1 v h).same s14).same t010
          · simp only [List.mem_cons, List.not_mem_nil, or_false] at h
            rcases h with rfl | rfl | rfl
            · exact oddr_with (pre := r0.drop 1) (post := []) (y := .str z) (((((((a4.trans a5).trans a6).trans a7).trans a8).trans a9).trans a10) _ _ b3) (by simp; omega) (bz _)
            · exact oddr_with (pre := []) (post := r0.drop 1) (y := .str z) ((((a7.trans a8).trans a9).trans a10) _ _ b6) (by simp; omega) (bz _)
            · exact oddr_with (pre := r0) (post := []) (y := .str z) ((a9.trans a10) _ _ b8) (by simp; omega) (bz _)
        have lv3 : (v2 ++ [V.ref p3, .ref p6, .ref p8]).length = 22 := by rw [List.length_append, lv1]; rfl
        generalize v2 ++ [V.ref p3, .ref p6, .ref p8] = v3 at b10 y3 lv3
        have fW20 := t010 _ _ fW14
        refine ⟨_, rfl, _, rfl, _, rfl, W, _, rfl, SqL.of fW20, fun p10 q11 => ?_⟩
        rw [cutV_one, ← List.map_drop, ← List.map_take]
        have a11 : Same J10 (upd J10 p10 (.lst (((r0.drop 1).take 1).map V.str))) := sn q11
        have b11 : upd J10 p10 (.lst (((r0.drop 1).take 1).map V.str)) p10 = some (.lst (((r0.drop 1).take 1).map V.str)) := upd_same
        generalize upd J10 p10 (.lst (((r0.drop 1).take 1).map V.str)) = J11 at a11 b11 ⊢
        have fW21 := a11 _ _ fW20
        refine ⟨p10, rfl, ⟨_, SqL.of b11⟩, fun D4 hD4 => lc_list (K := K) (a := p10) (xs := ((r0.drop 1).take 1).map V.str) (fun i H' => ∃ vs : List V, H' D4 = some (.lst vs) ∧ vs.length = i ∧ (∀ v ∈ vs, OddR K (delH H' D4) xs v) ∧ Same J11 H')
          ⟨[], upd_same, rfl, (fun v hv => nomatch hv), sn hD4⟩ (fun i H' _ h => by obtain ⟨_, _, _, _, h⟩ := h; exact SqL.of (h _ _ b11)) ?_ ?_⟩
        ·
          rintro i y H' hi ⟨vs, g1, g2, g3, g4⟩
          have lt : i < 1 ∧ 2 ≤ r0.length := by
            have q := (List.getElem?_eq_some_iff.mp hi).1
            rw [List.length_map, List.length_take, List.length_drop] at q
            omega
          have fW' := g4 _ _ fW21
          refine ⟨rfl, _, rfl, _, rfl, _, rfl, W, _, rfl, SqL.of fW', fun e1 r1 => ?_⟩
          rw [cutV_last, ← List.map_dropLast]
          have u1 : Same H' (upd H' e1 (.lst (r0.dropLast.map V.str))) := sn r1
          have w1 : upd H' e1 (.lst (r0.dropLast.map V.str)) e1 = some (.lst (r0.dropLast.map V.str)) := upd_same
          generalize upd H' e1 (.lst (r0.dropLast.map V.str)) = G1 at u1 w1 ⊢
          refine ⟨_, rfl, _, rfl, W, _, rfl, SqL.of (u1 _ _ fW'), fun e2 r2 => ?_⟩
          rw [show cutV (r0.map V.str) none (some (1 : Int)) = (r0.map V.str).take 1 from cut_any (m := 1), ← List.map_take]
          have u2 : Same G1 (upd G1 e2 (.lst ((r0.take 1).map V.str))) := sn r2
          have w2 : upd G1 e2 (.lst ((r0.take 1).map V.str)) e2 = some (.lst ((r0.take 1).map V.str)) := upd_same
          generalize upd G1 e2 (.lst ((r0.take 1).map V.str)) = G2 at u2 w2 ⊢
          refine ⟨e1, e2, _, _, rfl, rfl, u2 _ _ w1, w2, ?_, fun e3 r3 => ?_⟩
          · exact Nat.le_of_lt (small1000 (by simp; omega))
          rw [← List.map_append]
          have u3 : Same G2 (upd G2 e3 (.lst ((r0.dropLast ++ r0.take 1).map V.str))) := sn r3
          have w3 : upd G2 e3 (.lst ((r0.dropLast ++ r0.take 1).map V.str)) e3 = some (.lst ((r0.dropLast ++ r0.take 1).map V.str)) := upd_same
          generalize upd G2 e3 (.lst ((r0.dropLast ++ r0.take 1).map V.str)) = G3 at u3 w3 ⊢
          have u := (u1.trans u2).trans u3
          have n3 : e3 ≠ D4 := fun q => by
            rw [q, (u1.trans u2) _ _ g1] at r3
            cases r3
          refine ⟨vs, u _ _ g1, small1000 (by omega), vs ++ [.ref e3], upd_same, by rw [List.length_append, g2]; rfl, fun v hv => ?_, fun b o e => ?_⟩
          · rcases List.mem_append.mp hv with h | h
            · exact ((g3 v h).same (del_mono u)).same del_upd
            · rw [List.mem_singleton.mp h]
              refine OddR.same (oddr_strs (H := delH G3 D4) (zs := r0.dropLast ++ r0.take 1) ?_ (by simp; omega) (no_dup hE.nd ?_)) del_upd
              · rw [delH_ne n3]
                exact w3
              · match r0, lt with
                | [], h => exact absurd h.2 (by decide)
                | [_], h => exact absurd h.2 (by simp)
                | x :: x2 :: xr, _ => exact fun q => (List.nodup_append.mp q).2.2 x (by simp [List.dropLast]) x (by simp) rfl
          · rw [upd_ne (ne_of_none e hD4)]
            exact u _ _ (g4 _ _ e)
        ·
          rintro H15 ⟨v4, g1, g2, g3, g4⟩
          have g3' : ∀ v ∈ v4, OddR K H15 xs v := fun v hv => (g3 v hv).same del_sub
          have lv4 : v4.length ≤ 1 := by
            rw [g2, List.length_map, List.length_take]
            omega
          have s15 := a11.trans g4
          refine ⟨L3, D4, v3, v4, rfl, rfl, s15 _ _ b10, g1, Nat.le_of_lt (small1000 (by omega)), fun L4 q12 => ?_⟩
          have s16 : Same H15 (upd H15 L4 (.lst (v3 ++ v4))) := sn q12
          have fL4 : upd H15 L4 (.lst (v3 ++ v4)) L4 = some (.lst (v3 ++ v4)) := upd_same
          generalize upd H15 L4 (.lst (v3 ++ v4)) = H16 at s16 fL4 ⊢
          have y4 : ∀ v ∈ v3 ++ v4, OddR K H16 xs v := fun v hv => by
            rcases List.mem_append.mp hv with h | h
            · exact ((y3 v h).same s15).same s16
            · exact (g3' v h).same s16
          have lv5 : (v3 ++ v4).length ≤ 23 := by rw [List.length_append]; omega
          generalize v3 ++ v4 = v5 at fL4 y4 lv5
          have fW22 := (s15.trans s16) _ _ fW20
          refine ⟨_, rfl, (show 1 ≤ sizeLine by decide), fun e1 r1 => ?_⟩
          have u1 : Same H16 (upd H16 e1 (.lst [.non])) := sn r1
          have w1 : upd H16 e1 (.lst [.non]) e1 = some (.lst [.non]) := upd_same
          generalize upd H16 e1 (.lst [.non]) = G1 at u1 w1 ⊢
          refine ⟨_, rfl, _, rfl, W, _, rfl, SqL.of (u1 _ _ fW22), fun e2 r2 => ?_⟩
          rw [cutV_from (by rw [List.length_map]; omega), ← List.map_drop]
          have u2 : Same G1 (upd G1 e2 (.lst ((r0.drop 1).map V.str))) := sn r2
          have w2 : upd G1 e2 (.lst ((r0.drop 1).map V.str)) e2 = some (.lst ((r0.drop 1).map V.str)) := upd_same
          generalize upd G1 e2 (.lst ((r0.drop 1).map V.str)) = G2 at u2 w2 ⊢
          refine ⟨e1, e2, _, _, rfl, rfl, u2 _ _ w1, w2, ?_, fun e3 r3 => ?_⟩
          · exact Nat.le_of_lt (small1000 (by simp; omega))
          have u3 : Same G2 (upd G2 e3 (.lst ([.non] ++ (r0.drop 1).map V.str))) := sn r3
          have w3 : upd G2 e3 (.lst ([.non] ++ (r0.drop 1).map V.str)) e3 = some (.lst ([.non] ++ (r0.drop 1).map V.str)) := upd_same
          generalize upd G2 e3 (.lst ([.non] ++ (r0.drop 1).map V.str)) = G3 at u3 w3 ⊢
          have t3 := (u1.trans u2).trans u3
          refine ⟨_, rfl, (show 1 ≤ sizeLine by decide), fun e4 r4 => ?_⟩
          have u4 : Same G3 (upd G3 e4 (.lst [.str "A"])) := sn r4
          have w4 : upd G3 e4 (.lst [.str "A"]) e4 = some (.lst [.str "A"]) := upd_same
          generalize upd G3 e4 (.lst [.str "A"]) = G4 at u4 w4 ⊢
          refine ⟨W, e4, _, _, rfl, rfl, (t3.trans u4) _ _ fW22, w4, ?_, fun e5 r5 => ?_⟩
          · exact Nat.le_of_lt (small1000 (by simp; omega))
          have u5 : Same G4 (upd G4 e5 (.lst (r0.map V.str ++ [.str "A"]))) := sn r5
          have w5 : upd G4 e5 (.lst (r0.map V.str ++ [.str "A"])) e5 = some (.lst (r0.map V.str ++ [.str "A"])) := upd_same
          generalize upd G4 e5 (.lst (r0.map V.str ++ [.str "A"])) = G5 at u5 w5 ⊢
          refine ⟨_, rfl, (show 1 ≤ sizeLine by decide), fun e6 r6 => ?_⟩
          have u6 : Same G5 (upd G5 e6 (.lst [.ref W])) := sn r6
          have w6 : upd G5 e6 (.lst [.ref W]) e6 = some (.lst [.ref W]) := upd_same
          generalize upd G5 e6 (.lst [.ref W]) = G6 at u6 w6 ⊢
          refine ⟨(show 3 ≤ sizeLine by decide), fun e7 r7 => ?_⟩
          have u7 : Same G6 (upd G6 e7 (.lst [.ref e3, .ref e5, .ref e6])) := sn r7
          have w7 : upd G6 e7 (.lst [.ref e3, .ref e5, .ref e6]) e7 = some (.lst [.ref e3, .ref e5, .ref e6]) := upd_same
          generalize upd G6 e7 (.lst [.ref e3, .ref e5, .ref e6]) = G7 at u7 w7 ⊢
          have t7 := (((t3.trans u4).trans u5).trans u6).trans u7
          refine ⟨L4, e7, v5, _, rfl, rfl, t7 _ _ fL4, w7, Nat.le_of_lt (small1000 (by simp; omega)), fun L5 r8 => ?_⟩
          have u8 : Same G7 (upd G7 L5 (.lst (v5 ++ [.ref e3, .ref e5, .ref e6]))) := sn r8
          have w8 : upd G7 L5 (.lst (v5 ++ [.ref e3, .ref e5, .ref e6])) L5 = some (.lst (v5 ++ [.ref e3, .ref e5, .ref e6])) := upd_same
          generalize upd G7 L5 (.lst (v5 ++ [.ref e3, .ref e5, .ref e6])) = G8 at u8 w8 ⊢
          have sAll : Same H G8 := (((((s1.trans s113).trans s14).trans t010).trans (s15.trans s16)).trans t7).trans u8
          have nA : ("A" : Str) ∉ xs := fun h => by
            have e := isNm_iff.mpr (hE.nm _ h)
            rw [show isNm "A" = false by decide +kernel] at e
            cases e
          have hL5 : H L5 = none := (((((s1.trans s113).trans s14).trans t010).trans (s15.trans s16)).trans t7).free r8
          refine k L5 _ G8 sAll hL5 w8 (by simp; omega) fun v hv => ?_
          rcases List.mem_append.mp hv with h | h
          · exact (y4 v h).same (t7.trans u8)
          · simp only [List.mem_cons, List.not_mem_nil, or_false] at h
            rcases h with rfl | rfl | rfl
            · exact oddr_with (pre := []) (post := r0.drop 1) (y := .non) (((((u4.trans u5).trans u6).trans u7).trans u8) _ _ w3) (by simp; omega) ⟨rfl, .inr ⟨.non, fun z q => nomatch q⟩⟩
            · exact oddr_with (pre := r0) (post := []) (y := .str "A") (((u6.trans u7).trans u8) _ _ w5) (by simp; omega) ⟨rfl, .inl ⟨_, rfl, nA⟩⟩
            · exact oddr_item (vs := [.ref W]) (os := [none]) ((u7.trans u8) _ _ w6) (by simp) (.cons (.lst ((((s16.trans t7).trans u8)) _ _ (s15 _ _ fW20))) .nil) (.ref W) (by simp) (fun z q => nomatch q)
end
end K02

set_option maxHeartbeats 8000000
namespace K02
open PySem PySem.Spec PyProof.Rows L2 G1
/-- ["entries", v] against ["entries", v]: not unlike -/
theorem pair_self {K : PySem.W.Frag} {H : Hp} {D E : Addr} {z : Str} {v : V} (h1 : H D = some (.lst [.str z, v])) (h2 : H E = some (.lst [.str z, v])) (s : selfV v = true) : Lists2 K H 1 (.ref D) (.ref E) true := by
  refine ⟨D, E, _, _, rfl, rfl, SqL.of h1, SqL.of h2, .inr ⟨rfl, fun _ => true, fun i x y e1 e2 => ?_, rfl⟩⟩
  rw [e1] at e2
  cases e2
  have hx := List.mem_of_getElem? e1
  simp only [List.mem_cons, List.not_mem_nil, or_false] at hx
  rcases hx with rfl | rfl
  · exact self_eqW rfl
  · exact self_eqW s
theorem rows_true {K : PySem.W.Frag} {H : Hp} {xs : List Str} {as : List Addr} {rs : List (List Str)} (h : RowsAt H as rs) (hp : ∀ r ∈ rs, r.Perm xs) (le : xs.length ≤ 60) : RowVL K H xs (as.map V.ref) (rs.map fun _ => true) := by
  induction h with
  | nil => exact .nil
  | @cons a r as rs e _ ih =>
    have p := hp r List.mem_cons_self
    exact .cons (.lst e (by rw [List.length_map, p.length_eq]; exact le) (.ofStrs r) ⟨fun _ => ⟨r, rfl, p⟩, fun _ => rfl⟩) (ih fun y hy => hp y (List.mem_cons_of_mem _ hy))
theorem RowVL.append {K : PySem.W.Frag} {H : Hp} {xs : List Str} {vs ws : List V} {bs cs : List Bool} (h : RowVL K H xs vs bs) (g : RowVL K H xs ws cs) : RowVL K H xs (vs ++ ws) (bs ++ cs) := by
  induction h with
  | nil => exact g
  | cons e _ ih => exact .cons e ih
theorem refs_self {as : List Addr} : (as.map V.ref).all selfV = true := by
  rw [List.all_map]
  exact List.all_eq_true.mpr fun _ _ => rfl
/-- a list of rows with something in it that is none -/
structure Bent (K : PySem.W.Frag) (H : Hp) (xs : List Str) (v : V) : Prop where
  ex : ∃ (l : Addr) (zs : List V), v = .ref l ∧ H l = some (.lst zs) ∧ zs.length ≤ 100 ∧ zs.all selfV = true
  no : RowsV K H xs v false
theorem Bent.same {K : PySem.W.Frag} {H H' : Hp} {xs : List Str} {v : V} (h : Bent K H xs v) (s : Same H H') : Bent K H' xs v := by
  obtain ⟨⟨l, zs, h1, h2, h3, h4⟩, h5⟩ := h
  exact ⟨⟨l, zs, h1, s _ _ h2, h3, h4⟩, h5.same s⟩
theorem bent_of {K : PySem.W.Frag} {H : Hp} {xs : List Str} {l : Addr} {zs : List V} {bs : List Bool} (h : H l = some (.lst zs)) (le : zs.length ≤ 60) (s : zs.all selfV = true) (r : RowVL K H xs zs bs) (no : bs.all id = false) : Bent K H xs (.ref l) := by
  refine ⟨⟨l, zs, rfl, h, by omega, s⟩, ?_⟩
  have q := RowsV.lst h le r
  rw [no, Bool.and_false] at q
  exact q
def spRef (K : PySem.W.Frag) : Sp := fun vs H Q _ => ∃ (n R : Addr) (xs : List Str) (as : List Addr) (rs : List (List Str)), vs = [.ref n, .ref R] ∧ H n = some (.lst (xs.map V.str)) ∧ Ents xs ∧ 1 ≤ xs.length ∧ xs.length ≤ 6 ∧ H R = some (.lst (as.map V.ref)) ∧ RowsAt H as rs ∧ (∀ r ∈ rs, r.Perm xs) ∧ 1 ≤ rs.length ∧ rs.length ≤ 4 ∧
  ∀ (H' : Hp), Same H H' → Q (.bl true) H'
section
variable {P : Program} {w : World} {K : PySem.W.Frag} {mg : Str → Option Value} {base : Heap}
abbrev sRef : Stmt := top 28
abbrev nRef : List Str := ["_law_names_here", "_law_rows", "_law_odd", "_law_left_rows", "_law_caught_here", "_law_flat", "_law_bent", "_law_row"]
theorem scRef : FnScope nRef ["_law_names_here", "_law_rows"] (defScope sRef) := ⟨rfl, rfl, rfl, by decide +kernel, rfl, by decide +kernel, by decide +kernel⟩
theorem ok_ref {f fN fR fC fV : Addr} {fd fdN fdR fdC fdV : FuncData} (F : FnP K "_law_refused_right" sRef f fd) (LP : LibP mg) (lt : mg "tuple" = none) (ld : mg "dict" = none)
    (FN : FnP K "_law_odd_names" sOddN fN fdN) (gN : mg "_law_odd_names" = some (.ref fN)) (GN : FnOk P w K mg base CX0 1 fN fdN ["_law_names_here"] (spOddN K))
    (FR : FnP K "_law_odd_rows" sOddR fR fdR) (gR : mg "_law_odd_rows" = some (.ref fR)) (GR : FnOk P w K mg base CX0 2 fR fdR ["_law_names_here", "_law_rows"] (spOddR K))
    (FC : FnP K "_law_caught" sCaught fC fdC) (gC : mg "_law_caught" = some (.ref fC)) (GC : FnOk P w K mg base CX0 6 fC fdC ["_law_names_here", "_law_rows"] (spCaught K))
    (FV : FnP K "_law_very" sVery fV fdV) (gV : mg "_law_very" = some (.ref fV)) (GV : FnOk P w K mg base CX0 1 fV fdV ["_law_value", "_law_thing"] spVery) : FnOk P w K mg base CX0 7 f fd ["_law_names_here", "_law_rows"] (spRef K) := by
  have bN : Binds K fdN ["_law_names_here"] [] := FN.bindsN fun _ _ _ _ _ _ us hl => match us, hl with | [_], _ => rfl
  have bR : Binds K fdR ["_law_names_here", "_law_rows"] [] := FR.bindsN fun _ _ _ _ _ _ us hl => match us, hl with | [_, _], _ => rfl
  have bC : Binds K fdC ["_law_names_here", "_law_rows"] [] := FC.bindsN fun _ _ _ _ _ _ us hl => match us, hl with | [_, _], _ => rfl
  have bV : Binds K fdV ["_law_value", "_law_thing"] [] := FV.bindsN fun _ _ _ _ _ _ us hl => match us, hl with | [_, _], _ => rfl
  refine okN F scRef (fun vs H Q E h => ?_) (fun cdv A outer s H vs Q E hr h => ?_)
  · obtain ⟨_, _, _, _, _, rfl, _⟩ := h
    rfl
  · obtain ⟨n, R, xs, as, rs, rfl, hn, hE, x1, x6, hR, hra, hrp, r1, r4, k⟩ := h
    have hu := hr.units
    have hu2 : (A.deeper (envOfC "_law_refused_right" (defScope sRef) s.heap.objs.size f cdv)).units + (1 + 1) < cLine := by omega
    have hrN : Room 1 (A.deeper (envOfC "_law_refused_right" (defScope sRef) s.heap.objs.size f cdv)) := hr.mono (by decide)
    have hrR : Room 2 (A.deeper (envOfC "_law_refused_right" (defScope sRef) s.heap.objs.size f cdv)) := hr.mono (by decide)
    refine ⟨_, pss_cons (ps_for PassesOwn.never rfl (pi_list (pe_call GN hrN (by rfl) gN FN.kp bN .nil pass0 (pa_cons (pv 0) pa_nil))) (pg_name (i := 2) scRef.nd rfl (Or.inl rfl))
        (pss_one (ps_for PassesOwn.never rfl (pi_list (pe_lst (pa_cons (pv 1) (pa_cons pe_non (pa_cons (pe_lst (pa_cons (pv 2) pa_nil)) pa_nil))))) (pg_name (i := 3) scRef.nd rfl (Or.inl rfl))
          (pss_cons (ps_set (i := 4) scRef.nd rfl (Or.inl rfl) (pe_call GC hr (by rfl) gC FC.kp bC .nil pass0 (pa_cons (pv 2) (pa_cons (pv 3) pa_nil))))
          (pss_one (ps_if (PW.pt (pw_or (pt_cmpR (op_neW (n := 1) hu2) (pv 4) (pe_lst (pa_cons pe_str (pa_cons (pv 2) pa_nil))) (nomark _))
            (pw_or1 (PW.pt (pw_and (pt_val (pe_callB call_isi (by rfl) LP.isi (by decide +kernel) (pa_cons (pv 2) (pa_cons (pe_bltn (v := .ty "list") (by rfl) LP.list (by decide +kernel) rfl) pa_nil))))
              (pw_and1 (pt_not (pt_val (pe_call GV hrN (by rfl) gV FV.kp bV .nil pass0 (pa_cons (pe_ix ix_list (pv 4) pe_int (fun _ _ => rfl)) (pa_cons (pv 2) pa_nil))))))))))) (pss_one (ps_ret pe_bl)) pss_nil))))))
      (pss_cons (ps_set (i := 5) scRef.nd rfl (Or.inl rfl) (pe_lst (pa_cons (pe_callTy call_tuple_of (by rfl) lt (by decide +kernel) (pa_cons
            (pe_lc (own := [("_law_row", 7)]) (g := gName 7) (tt := tYes) (te := tCB (fun xs H Q => ∃ p ys, xs = [V.ref p] ∧ ((SqL K H p ys ∧ ∀ l, H l = none → Q (.ref l) (upd H l (.tup ys))) ∨ (SqT K H p ys ∧ Q (.ref p) H))) (tCons (tVar 7) tNil)) rfl scRef.nd (pi_list (pv 1))
              (blkOk_by (N := nRef) (sc := defScope sRef) (by decide +kernel)) (fun _ _ _ _ _ => pg_name (i := 7) scRef.nd rfl (Or.inl rfl)) (fun _ _ _ _ _ => pts_nil)
              (fun _ _ _ _ _ => pe_callTy call_tuple_of (by rfl) lt (by decide +kernel) (pa_cons (pv 7) pa_nil))) pa_nil))
          (pa_cons (pe_callTy call_tuple_of (by rfl) lt (by decide +kernel) (pa_cons (pv 1) pa_nil))
          (pa_cons (pe_callTy (call_dictP rfl) (by rfl) ld (by decide +kernel) (pa_cons (pe_lst (pa_cons (pe_tup (pa_cons pe_int (pa_cons (pe_ix ix_list (pv 1) pe_int (fun _ _ => rfl)) pa_nil))) pa_nil)) pa_nil)) pa_nil)))))
      (pss_cons (ps_for PassesOwn.never rfl (pi_list (pe_op op_cat (pe_lst (pa_cons pe_non (pa_cons pe_int (pa_cons pe_str (pa_cons (pe_tup pa_nil) (pa_cons pe_dnewK (pa_cons (pe_lst pa_nil) (pa_cons pe_bl pa_nil)))))))) (pv 5))) (pg_name (i := 2) scRef.nd rfl (Or.inl rfl))
        (pss_one (ps_if (pt_cmpR (op_neW (n := 1) hu2) (pe_call GC hr (by rfl) gC FC.kp bC .nil pass0 (pa_cons (pv 0) (pa_cons (pv 2) pa_nil))) (pe_lst (pa_cons pe_str (pa_cons (pv 2) pa_nil))) (nomark _)) (pss_one (ps_ret pe_bl)) pss_nil)))
      (pss_cons (ps_for PassesOwn.never rfl (pi_list (pe_call GR hrR (by rfl) gR FR.kp bR .nil pass0 (pa_cons (pv 0) (pa_cons (pv 1) pa_nil)))) (pg_name (i := 2) scRef.nd rfl (Or.inl rfl))
        (pss_one (ps_for PassesOwn.never rfl (pi_list (pe_lst (pa_cons (pe_lst (pa_cons (pv 2) pa_nil)) (pa_cons (pe_op op_cat (pe_lst (pa_cons (pv 2) pa_nil)) (pv 1)) (pa_cons (pe_op op_cat (pv 1) (pe_lst (pa_cons (pv 2) pa_nil))) pa_nil))))) (pg_name (i := 6) scRef.nd rfl (Or.inl rfl))
          (pss_cons (ps_set (i := 4) scRef.nd rfl (Or.inl rfl) (pe_call GC hr (by rfl) gC FC.kp bC .nil pass0 (pa_cons (pv 0) (pa_cons (pv 6) pa_nil))))
          (pss_one (ps_if (PW.pt (pw_or (pt_cmpR (op_neW (n := 1) hu2) (pv 4) (pe_lst (pa_cons pe_str (pa_cons (pv 6) pa_nil))) (nomark _))
            (pw_or1 (pt_not (pt_val (pe_call GV hrN (by rfl) gV FV.kp bV .nil pass0 (pa_cons (pe_ix ix_list (pv 4) pe_int (fun _ _ => rfl)) (pa_cons (pv 6) pa_nil)))))))) (pss_one (ps_ret pe_bl)) pss_nil))))))
      (pss_one (ps_ret pe_bl))))), ?_⟩
    refine ⟨_, rfl, n, xs, rfl, hn, hE, x1, x6, fun D vs H1 s1 nD hD lv ov => ?_⟩
    refine ⟨D, rfl, ⟨_, SqL.of hD⟩, for_list (K := K) (a := D) (xs := vs) (fun i σ H' => ∃ o2 o3 o4 : Option V, σ = [some (.ref n), some (.ref R), o2, o3, o4, none, none, none] ∧ Same H1 H') ⟨none, none, none, rfl, Same.refl _⟩
      (fun i σ H' _ h => by obtain ⟨_, _, _, _, h⟩ := h; exact SqL.of (h _ _ hD)) ?_ ?_⟩
    · rintro i y σ H2 hi ⟨o2, o3, o4, rfl, s2⟩
      have oy := (ov y (List.mem_of_getElem? hi)).same s2
      refine ⟨_, rfl, _, rfl, (show 1 ≤ sizeLine by decide), fun l q1 => ?_⟩
      have a1 : Same H2 (upd H2 l (.lst [y])) := sn q1
      generalize upd H2 l (.lst [y]) = H3 at a1 ⊢
      refine ⟨(show 3 ≤ sizeLine by decide), fun O q2 => ?_⟩
      have a2 : Same H3 (upd H3 O (.lst [.ref R, .non, .ref l])) := sn q2
      have fO : upd H3 O (.lst [.ref R, .non, .ref l]) O = some (.lst [.ref R, .non, .ref l]) := upd_same
      generalize upd H3 O (.lst [.ref R, .non, .ref l]) = H4 at a2 fO ⊢
      have s4 := (s2.trans a1).trans a2
      have oy4 := oy.same (a1.trans a2)
      refine ⟨O, rfl, ⟨_, SqL.of fO⟩, for_list (K := K) (a := O) (xs := [.ref R, .non, .ref l]) (fun j σ H' => ∃ o3 o4 : Option V, σ = [some (.ref n), some (.ref R), some y, o3, o4, none, none, none] ∧ Same H4 H') ⟨_, _, rfl, Same.refl _⟩
        (fun i σ H' _ h => by obtain ⟨_, _, _, h⟩ := h; exact SqL.of (h _ _ fO)) ?_ ?_⟩
      · rintro j v σ H5 _ ⟨o3, o4, rfl, s5⟩
        have oy5 := oy4.same s5
        refine ⟨_, rfl, _, rfl, y, v, rfl, .inl ⟨oy5.un, fun C H6 s6 nC hC => ?_⟩⟩
        refine ⟨_, rfl, _, rfl, (show 2 ≤ sizeLine by decide), fun M q3 => ?_⟩
        have a3 : Same H6 (upd H6 M (.lst [.str "entries", y])) := sn q3
        have fM : upd H6 M (.lst [.str "entries", y]) M = some (.lst [.str "entries", y]) := upd_same
        generalize upd H6 M (.lst [.str "entries", y]) = H7 at a3 fM ⊢
        have hC7 := a3 _ _ hC
        refine ⟨true, pair_self hC7 fM oy.self, _, rfl, ?_⟩
        obtain ⟨_, _, T, b, ty, kb, lb⟩ := oy5.same (s6.trans a3)
        refine ⟨_, rfl, y, .ty "list", .type T, .type "list", b, rfl, .ty _, ty, kit_ty kb, b, rfl, ?_⟩
        have s57 := (s5.trans s6).trans a3
        cases b with
        | false => exact ⟨_, _, rfl, s57⟩
        | true =>
          obtain ⟨l2, zs, rfl, e1, e2, e3⟩ := lb rfl
          refine ⟨_, rfl, C, _, 1, .ref l2, rfl, rfl, SqL.of hC7, rfl, _, rfl, l2, zs, rfl, e1, e2, e3, fun H8 s8 => ⟨_, rfl, ?_⟩⟩
          exact ⟨_, _, rfl, s57.trans s8⟩
      · rintro σ H5 ⟨o3, o4, rfl, s5⟩
        exact ⟨_, _, _, rfl, s4.trans s5⟩
    · rintro σ H2 ⟨o2, o3, o4, rfl, s2⟩
      have s02 := s1.trans s2
      have hR2 := s02 _ _ hR
      have hra2 := hra.same s02
      -- what is no list of rows: tuples, a dict
      refine ⟨_, rfl, R, rfl, ⟨_, SqL.of hR2⟩, fun TL hTL => lc_list (K := K) (a := R) (xs := as.map V.ref) (fun i H' => ∃ ts : List V, H' TL = some (.lst ts) ∧ ts.length = i ∧ Same H2 H') ⟨[], upd_same, rfl, sn hTL⟩ (fun i H' _ h => by obtain ⟨_, _, _, h⟩ := h; exact SqL.of (h _ _ hR2)) ?_ ?_⟩
      · rintro i y H' hi ⟨ts, g1, g2, g3⟩
        have hi2 := hi
        rw [List.getElem?_map] at hi
        obtain ⟨c, hc, rfl⟩ := Option.map_eq_some_iff.mp hi
        obtain ⟨ws, hw1, hw2⟩ := hra2.at hc
        have li : i < rs.length := (List.getElem?_eq_some_iff.mp hw1).1
        refine ⟨rfl, _, rfl, c, _, rfl, .inl ⟨SqL.of (g3 _ _ hw2), fun t nt => ?_⟩⟩
        have a1 : Same H' (upd H' t (.tup (ws.map V.str))) := sn nt
        generalize upd H' t (.tup (ws.map V.str)) = H5 at a1 ⊢
        refine ⟨ts, a1 _ _ g1, small1000 (by omega), ts ++ [.ref t], upd_same, by rw [List.length_append, g2]; rfl, fun b o e => ?_⟩
        rw [upd_ne (ne_of_none e hTL)]
        exact a1 _ _ (g3 _ _ e)
      · rintro H3 ⟨ts, g1, g2, g3⟩
        refine ⟨TL, ts, rfl, .inl ⟨SqL.of g1, fun t1 m1 => ?_⟩⟩
        have a1 : Same H3 (upd H3 t1 (.tup ts)) := sn m1
        have f1 : upd H3 t1 (.tup ts) t1 = some (.tup ts) := upd_same
        generalize upd H3 t1 (.tup ts) = H4 at a1 f1 ⊢
        have s24 := g3.trans a1
        refine ⟨_, rfl, R, _, rfl, .inl ⟨SqL.of (s24 _ _ hR2), fun t2 m2 => ?_⟩⟩
        have a2 : Same H4 (upd H4 t2 (.tup (as.map V.ref))) := sn m2
        have f2 : upd H4 t2 (.tup (as.map V.ref)) t2 = some (.tup (as.map V.ref)) := upd_same
        generalize upd H4 t2 (.tup (as.map V.ref)) = H5 at a2 f2 ⊢
        have s25 := s24.trans a2
        obtain ⟨a0, as', rfl⟩ : ∃ a0 as', as = a0 :: as' := by
          cases as with
          | nil =>
            have := hra.len
            simp at this
            omega
          | cons a0 as' => exact ⟨a0, as', rfl⟩
        refine ⟨_, rfl, R, _, 0, .ref a0, rfl, rfl, SqL.of (s25 _ _ hR2), atI_nat (show ((a0 :: as').map V.ref)[0]? = some (V.ref a0) from rfl), (show 2 ≤ sizeLine by decide), fun p np => ?_⟩
        have a3 : Same H5 (upd H5 p (.tup [.int 0, .ref a0])) := sn np
        have f3 : upd H5 p (.tup [.int 0, .ref a0]) p = some (.tup [.int 0, .ref a0]) := upd_same
        generalize upd H5 p (.tup [.int 0, .ref a0]) = H6 at a3 f3 ⊢
        refine ⟨(show 1 ≤ sizeLine by decide), fun pl npl => ?_⟩
        have a4 : Same H6 (upd H6 pl (.lst [.ref p])) := sn npl
        have f4 : upd H6 pl (.lst [.ref p]) pl = some (.lst [.ref p]) := upd_same
        generalize upd H6 pl (.lst [.ref p]) = H7 at a4 f4 ⊢
        refine ⟨pl, [p], [((Sum.inl 0 : Key), V.ref a0)], rfl, SqL.of f4, .cons (SqT.of (a4 _ _ f3)) .nil, fun d1 k1 => ?_⟩
        generalize mergeK [] [((Sum.inl 0 : Key), V.ref a0)] = kvs
        have a5 : Same H7 (upd H7 d1 (.dK kvs)) := sn k1
        have f5 : upd H7 d1 (.dK kvs) d1 = some (.dK kvs) := upd_same
        generalize upd H7 d1 (.dK kvs) = H8 at a5 f5 ⊢
        refine ⟨(show 3 ≤ sizeLine by decide), fun Fl nFl => ?_⟩
        have a6 : Same H8 (upd H8 Fl (.lst [.ref t1, .ref t2, .ref d1])) := sn nFl
        have f6 : upd H8 Fl (.lst [.ref t1, .ref t2, .ref d1]) Fl = some (.lst [.ref t1, .ref t2, .ref d1]) := upd_same
        generalize upd H8 Fl (.lst [.ref t1, .ref t2, .ref d1]) = H9 at a6 f6 ⊢
        have s29 := (((s25.trans a3).trans a4).trans a5).trans a6
        refine ⟨Nat.zero_le _, fun t5 m5 d5 k5 => ⟨Nat.zero_le _, fun l5 n5 => ?_⟩⟩
        have b3 : Same H9 (upd (upd (upd H9 t5 (.tup [])) d5 (.dK [])) l5 (.lst [])) := ((sn m5).trans (sn k5)).trans (sn n5)
        have ft : upd (upd (upd H9 t5 (.tup [])) d5 (.dK [])) l5 (.lst []) t5 = some (.tup []) := (sn n5) _ _ ((sn k5) _ _ upd_same)
        have fd : upd (upd (upd H9 t5 (.tup [])) d5 (.dK [])) l5 (.lst []) d5 = some (.dK []) := (sn n5) _ _ upd_same
        have fl : upd (upd (upd H9 t5 (.tup [])) d5 (.dK [])) l5 (.lst []) l5 = some (.lst []) := upd_same
        generalize upd (upd (upd H9 t5 (.tup [])) d5 (.dK [])) l5 (.lst []) = H10 at b3 ft fd fl ⊢
        refine ⟨(show 7 ≤ sizeLine by decide), fun L7 q7 => ?_⟩
        have b4 : Same H10 (upd H10 L7 (.lst [.non, .int 5, .str "ale", .ref t5, .ref d5, .ref l5, .bl true])) := sn q7
        have g7 : upd H10 L7 (.lst [.non, .int 5, .str "ale", .ref t5, .ref d5, .ref l5, .bl true]) L7 = some (.lst [.non, .int 5, .str "ale", .ref t5, .ref d5, .ref l5, .bl true]) := upd_same
        generalize upd H10 L7 (.lst [.non, .int 5, .str "ale", .ref t5, .ref d5, .ref l5, .bl true]) = H11 at b4 g7 ⊢
        refine ⟨_, rfl, L7, Fl, _, _, rfl, rfl, g7, (b3.trans b4) _ _ f6, (show 7 + 3 ≤ sizeLine by decide), fun LL q8 => ?_⟩
        have b5 : Same H11 (upd H11 LL (.lst ([.non, .int 5, .str "ale", .ref t5, .ref d5, .ref l5, .bl true] ++ [.ref t1, .ref t2, .ref d1]))) := sn q8
        have g8 : upd H11 LL (.lst ([.non, .int 5, .str "ale", .ref t5, .ref d5, .ref l5, .bl true] ++ [.ref t1, .ref t2, .ref d1])) LL = some (.lst ([.non, .int 5, .str "ale", .ref t5, .ref d5, .ref l5, .bl true] ++ [.ref t1, .ref t2, .ref d1])) := upd_same
        generalize upd H11 LL (.lst ([.non, .int 5, .str "ale", .ref t5, .ref d5, .ref l5, .bl true] ++ [.ref t1, .ref t2, .ref d1])) = H12 at b5 g8 ⊢
        have s912 := (b3.trans b4).trans b5
        have s012 := s02.trans (s29.trans s912)
        have odds : ∀ v ∈ ([.non, .int 5, .str "ale", .ref t5, .ref d5, .ref l5, .bl true] ++ [.ref t1, .ref t2, .ref d1] : List V), selfV v = true ∧ RowsV K H12 xs v false := by
          intro v hv
          simp only [List.cons_append, List.nil_append, List.mem_cons, List.not_mem_nil, or_false] at hv
          rcases hv with rfl | rfl | rfl | rfl | rfl | rfl | rfl | rfl | rfl | rfl
          · exact ⟨rfl, .no (.base .non) (by decide +kernel)⟩
          · exact ⟨rfl, .no (.base (.int _)) (by decide +kernel)⟩
          · exact ⟨rfl, .no (.base (.str _)) (by decide +kernel)⟩
          · exact ⟨rfl, .no (.base (.tup ((b4.trans b5) _ _ ft))) (by decide +kernel)⟩
          · exact ⟨rfl, .no (.base (.dK ((b4.trans b5) _ _ fd))) (by decide +kernel)⟩
          · exact ⟨rfl, .lst (vs := []) (bs := []) ((b4.trans b5) _ _ fl) (by simp) .nil⟩
          · exact ⟨rfl, .no (.base (.bl _)) (by decide +kernel)⟩
          · exact ⟨rfl, .no (.base (.tup ((((((a2.trans a3).trans a4).trans a5).trans a6).trans s912) _ _ f1))) (by decide +kernel)⟩
          · exact ⟨rfl, .no (.base (.tup (((((a3.trans a4).trans a5).trans a6).trans s912) _ _ f2))) (by decide +kernel)⟩
          · exact ⟨rfl, .no (.base (.dK ((a6.trans s912) _ _ f5))) (by decide +kernel)⟩
        have good : ∀ H', Same H H' → Unl K H' (.ref n) true := fun H' s' => by
          have q : Unl K H' (.ref n) (!xs.isEmpty && decide xs.Nodup) := .names (s' _ _ hn) (by omega) hE.nm
          have e1 : xs.isEmpty = false := by
            cases xs with
            | nil => exact absurd x1 (by decide)
            | cons _ _ => rfl
          rw [e1, decide_eq_true hE.nd] at q
          exact q
        generalize ([.non, .int 5, .str "ale", .ref t5, .ref d5, .ref l5, .bl true] ++ [.ref t1, .ref t2, .ref d1] : List V) = od at g8 odds ⊢
        refine ⟨LL, rfl, ⟨_, SqL.of g8⟩, for_list (K := K) (a := LL) (xs := od) (fun i σ H' => ∃ o2 o3 o4 : Option V, σ = [some (.ref n), some (.ref R), o2, o3, o4, some (.ref Fl), none, none] ∧ Same H12 H') ⟨_, _, _, rfl, Same.refl _⟩
          (fun i σ H' _ h => by obtain ⟨_, _, _, _, h⟩ := h; exact SqL.of (h _ _ g8)) ?_ ?_⟩
        · rintro i y σ H13 hi ⟨o2', o3', o4', rfl, c1⟩
          obtain ⟨sy, ry⟩ := odds y (List.mem_of_getElem? hi)
          have s013 := s012.trans c1
          refine ⟨_, rfl, _, rfl, .ref n, y, rfl, .inr ⟨good _ s013, ⟨n, xs, rfl, SqL.of (s013 _ _ hn), by omega, fun xs2 p2 so2 => ?_⟩, fun C H14 c2 nC hC => ?_⟩⟩
          · rw [sorted_uniq so2 hE.so p2]
            exact ry.same c1
          · refine ⟨_, rfl, (show 2 ≤ sizeLine by decide), fun M q3 => ?_⟩
            have c3 : Same H14 (upd H14 M (.lst [.str "rows", y])) := sn q3
            have fM : upd H14 M (.lst [.str "rows", y]) M = some (.lst [.str "rows", y]) := upd_same
            generalize upd H14 M (.lst [.str "rows", y]) = H15 at c3 fM ⊢
            refine ⟨true, pair_self (c3 _ _ hC) fM sy, _, rfl, ?_⟩
            exact ⟨_, _, _, rfl, (c1.trans c2).trans c3⟩
        · rintro σ H13 ⟨o2', o3', o4', rfl, c1⟩
          have s013 := s012.trans c1
          generalize hAs : a0 :: as' = as at *
          refine ⟨_, rfl, _, rfl, n, R, xs, as, rs, rfl, s013 _ _ hn, hE, x1, x6, s013 _ _ hR, hra.same s013, hrp, r1, r4, fun D3 us H14 c2 nD3 hD3 lu ou => ?_⟩
          have s014 := s013.trans c2
          refine ⟨D3, rfl, ⟨_, SqL.of hD3⟩, for_list (K := K) (a := D3) (xs := us) (fun i σ H' => ∃ o2 o4 o6 : Option V, σ = [some (.ref n), some (.ref R), o2, o3', o4, some (.ref Fl), o6, none] ∧ Same H14 H') ⟨_, _, _, rfl, Same.refl _⟩
            (fun i σ H' _ h => by obtain ⟨_, _, _, _, h⟩ := h; exact SqL.of (h _ _ hD3)) ?_ ?_⟩
          · rintro i y σ H15 hi ⟨o2, o4, o6, rfl, e0⟩
            have oy := (ou y (List.mem_of_getElem? hi)).same e0
            have s015 := s014.trans e0
            have hR15 := s015 _ _ hR
            have lra := hra.len
            refine ⟨_, rfl, (show 1 ≤ sizeLine by decide), fun l1 q1 => ?_⟩
            have u1 : Same H15 (upd H15 l1 (.lst [y])) := sn q1
            have w1 : upd H15 l1 (.lst [y]) l1 = some (.lst [y]) := upd_same
            generalize upd H15 l1 (.lst [y]) = G1 at u1 w1 ⊢
            refine ⟨_, rfl, (show 1 ≤ sizeLine by decide), fun l2 q2 => ?_⟩
            have u2 : Same G1 (upd G1 l2 (.lst [y])) := sn q2
            have w2 : upd G1 l2 (.lst [y]) l2 = some (.lst [y]) := upd_same
            generalize upd G1 l2 (.lst [y]) = G2 at u2 w2 ⊢
            refine ⟨_, rfl, l2, R, _, _, rfl, rfl, w2, (u1.trans u2) _ _ hR15, ?_, fun l3 q3 => ?_⟩
            · exact Nat.le_of_lt (small1000 (by simp; omega))
            have u3 : Same G2 (upd G2 l3 (.lst ([y] ++ as.map V.ref))) := sn q3
            have w3 : upd G2 l3 (.lst ([y] ++ as.map V.ref)) l3 = some (.lst ([y] ++ as.map V.ref)) := upd_same
            generalize upd G2 l3 (.lst ([y] ++ as.map V.ref)) = G3 at u3 w3 ⊢
            refine ⟨_, rfl, _, rfl, (show 1 ≤ sizeLine by decide), fun l4 q4 => ?_⟩
            have u4 : Same G3 (upd G3 l4 (.lst [y])) := sn q4
            have w4 : upd G3 l4 (.lst [y]) l4 = some (.lst [y]) := upd_same
            generalize upd G3 l4 (.lst [y]) = G4 at u4 w4 ⊢
            refine ⟨R, l4, _, _, rfl, rfl, (((u1.trans u2).trans u3).trans u4) _ _ hR15, w4, ?_, fun l6 q5 => ?_⟩
            · exact Nat.le_of_lt (small1000 (by simp; omega))
            have u5 : Same G4 (upd G4 l6 (.lst (as.map V.ref ++ [y]))) := sn q5
            have w5 : upd G4 l6 (.lst (as.map V.ref ++ [y])) l6 = some (.lst (as.map V.ref ++ [y])) := upd_same
            generalize upd G4 l6 (.lst (as.map V.ref ++ [y])) = G5 at u5 w5 ⊢
            refine ⟨(show 3 ≤ sizeLine by decide), fun O q6 => ?_⟩
            have u6 : Same G5 (upd G5 O (.lst [.ref l1, .ref l3, .ref l6])) := sn q6
            have w6 : upd G5 O (.lst [.ref l1, .ref l3, .ref l6]) O = some (.lst [.ref l1, .ref l3, .ref l6]) := upd_same
            generalize upd G5 O (.lst [.ref l1, .ref l3, .ref l6]) = G6 at u6 w6 ⊢
            have u16 := ((((u1.trans u2).trans u3).trans u4).trans u5).trans u6
            have oy6 := (oy.same u16)
            have rt := rows_true (K := K) (xs := xs) (hra.same (s015.trans u16)) hrp (by omega)
            have bents : ∀ v ∈ ([.ref l1, .ref l3, .ref l6] : List V), Bent K G6 xs v := by
              intro v hv
              simp only [List.mem_cons, List.not_mem_nil, or_false] at hv
              rcases hv with rfl | rfl | rfl
              · exact bent_of (bs := [false]) (((((u2.trans u3).trans u4).trans u5).trans u6) _ _ w1) (by simp) (by simp [oy6.self]) (.cons oy6.no .nil) rfl
              · exact bent_of (bs := false :: rs.map fun _ => true) ((((u4.trans u5).trans u6)) _ _ w3) (by simp; omega) (by rw [List.all_append, refs_self]; simp [oy6.self]) (.cons oy6.no rt) rfl
              · refine bent_of (bs := (rs.map fun _ => true) ++ [false]) (u6 _ _ w5) (by simp; omega) (by rw [List.all_append, refs_self]; simp [oy6.self]) (rt.append (.cons oy6.no .nil)) ?_
                rw [List.all_append]
                simp
            have s016 := s015.trans u16
            refine ⟨O, rfl, ⟨_, SqL.of w6⟩, for_list (K := K) (a := O) (xs := [.ref l1, .ref l3, .ref l6]) (fun j σ H' => ∃ o4 o6 : Option V, σ = [some (.ref n), some (.ref R), some y, o3', o4, some (.ref Fl), o6, none] ∧ Same G6 H') ⟨_, _, rfl, Same.refl _⟩
              (fun i σ H' _ h => by obtain ⟨_, _, _, h⟩ := h; exact SqL.of (h _ _ w6)) ?_ ?_⟩
            · rintro j v σ K1 hj ⟨o4, o6, rfl, v1⟩
              have bv := (bents v (List.mem_of_getElem? hj)).same v1
              obtain ⟨⟨l, zs, rfl, z1, z2, z3⟩, z4⟩ := id bv
              have s017 := s016.trans v1
              refine ⟨_, rfl, _, rfl, .ref n, .ref l, rfl, .inr ⟨good _ s017, ⟨n, xs, rfl, SqL.of (s017 _ _ hn), by omega, fun xs2 p2 so2 => ?_⟩, fun C K2 v2 nC hC => ?_⟩⟩
              · rw [sorted_uniq so2 hE.so p2]
                exact z4
              · refine ⟨_, rfl, _, rfl, (show 2 ≤ sizeLine by decide), fun M q3 => ?_⟩
                have v3 : Same K2 (upd K2 M (.lst [.str "rows", .ref l])) := sn q3
                have fM : upd K2 M (.lst [.str "rows", .ref l]) M = some (.lst [.str "rows", .ref l]) := upd_same
                generalize upd K2 M (.lst [.str "rows", .ref l]) = K3 at v3 fM ⊢
                have hC3 := v3 _ _ hC
                refine ⟨true, pair_self hC3 fM rfl, _, rfl, ?_⟩
                refine ⟨_, rfl, C, _, 1, .ref l, rfl, rfl, SqL.of hC3, rfl, _, rfl, l, zs, rfl, (v2.trans v3) _ _ z1, z2, z3, fun K4 v4 => ⟨_, rfl, ?_⟩⟩
                exact ⟨_, _, rfl, ((v1.trans v2).trans v3).trans v4⟩
            · rintro σ K1 ⟨o4, o6, rfl, v1⟩
              exact ⟨_, _, _, rfl, (e0.trans u16).trans v1⟩
          · rintro σ H15 ⟨o2, o4, o6, rfl, e0⟩
            exact k H15 (s014.trans e0)
end
end K02

set_option maxHeartbeats 8000000
namespace K02
open PySem PySem.Spec PyProof.Rows L2 G1
theorem unl_names {K : PySem.W.Frag} {H : Hp} {e : Addr} {zs : List Str} (h : H e = some (.lst (zs.map V.str))) (le : zs.length ≤ 40) (nm : ∀ z ∈ zs, Nm z) (nd : zs.Nodup) (l1 : 1 ≤ zs.length) : Unl K H (.ref e) true := by
  have q : Unl K H (.ref e) (!zs.isEmpty && decide zs.Nodup) := .names h (by omega) nm
  have e1 : zs.isEmpty = false := by
    cases zs with
    | nil => exact absurd l1 (by decide)
    | cons _ _ => rfl
  rw [e1, decide_eq_true nd] at q
  exact q
/-- what is in a heap and was not in an earlier one -/
def newH (H H' : Hp) : Hp := fun b => match H b with
  | none => H' b
  | some _ => none
theorem new_sub {H H' : Hp} : Same (newH H H') H' := fun b o e => by
  unfold newH at e
  cases q : H b with
  | none => rw [q] at e; exact e
  | some u => rw [q] at e; cases e
theorem new_at {H H' : Hp} {b : Addr} (h : H b = none) : newH H H' b = H' b := by
  unfold newH
  rw [h]
theorem new_none {H H' : Hp} {b : Addr} (h : H b ≠ none) : newH H H' b = none := by
  unfold newH
  cases q : H b with
  | none => exact absurd q h
  | some u => rfl
theorem same_upd {A B : Hp} {b : Addr} {o : HO} (s : Same A B) (n : A b = none) : Same A (upd B b o) := fun c u e => by
  rw [upd_ne (ne_of_none e n)]
  exact s c u e
/-- its methods are not hidden by fields -/
def Fre (H : Hp) (C a : Addr) : Prop := ∃ (dx : Addr) (fs : List (Str × V)), H a = some (.ins C dx fs) ∧ fs.lookup ("entries" : Str) = none ∧ fs.lookup ("rows" : Str) = none
theorem Fre.same {H H' : Hp} {C a : Addr} (h : Fre H C a) (s : Same H H') : Fre H' C a := by
  obtain ⟨dx, fs, h1, h2⟩ := h
  exact ⟨dx, fs, s _ _ h1, h2⟩
/-- a panel made of what is right -/
theorem make_ok {K : PySem.W.Frag} {C : Addr} {H : Hp} {P : Addr → Hp → Prop} {E : XK} {e r : Addr} {zs xs : List Str} {as : List Addr} {rs : List (List Str)} (he : H e = some (.lst (zs.map V.str))) (nm : ∀ z ∈ zs, Nm z) (nd : zs.Nodup) (l1 : 1 ≤ zs.length) (l2 : zs.length ≤ 40)
    (p : xs.Perm zs) (so : sortedS xs = true) (hr : H r = some (.lst (as.map V.ref))) (ha : RowsAt H as rs) (hp : ∀ y ∈ rs, y.Perm xs) (r1 : 1 ≤ rs.length) (r2 : rs.length ≤ 40)
    (k : ∀ a H', Same H H' → H a = none → PanelAt H' C a xs rs → PanelAt (newH H H') C a xs rs → Fre (newH H H') C a → P a H') :
    ∀ a dx, H a = none → H dx = none → dx ≠ a → spInit K C [.ref a, .ref e, .ref r] (upd (upd H dx (.own a)) a (.ins C dx [])) (fun v H2 => v = .non ∧ P a H2) E := by
  intro a dx na nd2 ne
  have s1 : Same H (upd (upd H dx (.own a)) a (.ins C dx [])) := (sn nd2).trans (sn (by rw [upd_ne (Ne.symm ne)]; exact na))
  have fa : upd (upd H dx (.own a)) a (.ins C dx []) a = some (.ins C dx []) := upd_same
  generalize upd (upd H dx (.own a)) a (.ins C dx []) = H1 at s1 fa ⊢
  refine ⟨a, dx, .ref e, .ref r, true, rfl, fa, unl_names (s1 _ _ he) l2 nm nd l1, (fun q => nomatch q), fun _ => ⟨e, zs, rfl, SqL.of (s1 _ _ he), by omega, fun ys py sy => ?_⟩⟩
  have exy : ys = xs := sorted_uniq sy so (py.trans p.symm)
  subst exy
  have lra := ha.len
  have q : RowsV K H1 ys (.ref r) (!(as.map V.ref).isEmpty && (rs.map fun _ => true).all id) := .lst (s1 _ _ hr) (by rw [List.length_map]; omega) (rows_true (ha.same s1) hp (by have := p.length_eq; omega))
  have e1 : (as.map V.ref).isEmpty = false := by
    cases as with
    | nil => simp at lra; omega
    | cons _ _ => rfl
  have e2 : (rs.map fun _ => true).all id = true := by
    rw [List.all_map]
    exact List.all_eq_true.mpr fun _ _ => rfl
  rw [e1, e2] at q
  refine ⟨true, q, (fun z => nomatch z), fun _ r' as' rs' er hr' hra' hp' fs N R cs H' h1 h2 h3 h4 h5 h6 h7 h8 h9 g1 g2 b => ⟨rfl, ?_⟩⟩
  cases er
  have ers : rs' = rs := by
    rw [s1 _ _ hr] at hr'
    injection hr' with z
    injection z with z
    have eas : as = as' := by
      have inj : ∀ {x y : List Addr}, x.map V.ref = y.map V.ref → x = y := fun {x} => by
        induction x with
        | nil => intro y h; cases y with
          | nil => rfl
          | cons _ _ => cases h
        | cons x0 x ih => intro y h; cases y with
          | nil => cases h
          | cons y0 y =>
            injection h with h1 h2
            injection h1 with h3
            rw [h3, ih h2]
      exact inj z
    subst eas
    have ha1 := ha.same s1
    clear hp' hp h6 k q e1 e2 lra r1 r2 hr z ha
    induction hra' generalizing rs with
    | nil => cases ha1; rfl
    | cons e0 _ ih =>
      cases ha1 with
      | cons e3 t3 =>
        rw [e0] at e3
        injection e3 with e3
        injection e3 with e3
        rw [map_str_inj e3, ih t3]
  subst ers
  have w1 : newH H H' a = some (.ins C dx fs) := by rw [new_at na]; exact h1
  refine k a H' (fun c o ec => ?_) na ⟨dx, fs, N, R, cs, h1, h2, h3, h4, h5, h6⟩ ⟨dx, fs, N, R, cs, w1, h2, h3, ?_, ?_, h6.keep fun c hc o e => ?_⟩ ⟨dx, fs, w1, g1, g2⟩
  rotate_left
  · rw [new_at (s1.free h7)]; exact h4
  · rw [new_at (s1.free h8)]; exact h5
  · rw [new_at (s1.free (h9 c hc))]; exact e
  by_cases qc : c = a
  · rw [qc, na] at ec
    cases ec
  · exact b c o qc (s1 _ _ ec)
end K02

set_option maxHeartbeats 8000000
namespace K02
open PySem PySem.Spec PyProof.Rows L2 G1
/-- what more is known of the class where panels are compared -/
structure PanY (K : PySem.W.Frag) (C fE : Addr) : Prop extends PanX K C where
  eq : PySem.W.findIn K (.ref C) "__eq__" = some (some (.ref fE))
  fn : PySem.W.isFn K (.ref fE) = true
  ne : PySem.W.findIn K (.ref C) "__ne__" = some (some (.builtin "object.__ne__"))
  ob : PySem.W.subIn K (.ref C) (.type "object") = some true
  nm : PySem.W.notFirst K C (.ref C) = true
  nt : ∀ T : String, T = "NoneType" ∨ T = "int" ∨ T = "list" ∨ T = "tuple" → PySem.W.notFirst K C (.type T) = true
/-- a thing that a panel of xs, rs is unlike -/
def Other (K : PySem.W.Frag) (C : Addr) (H : Hp) (xs : List Str) (rs : List (List Str)) (y : V) : Prop :=
  (∃ (c : Addr) (ys : List Str) (ts : List (List Str)), y = .ref c ∧ PanelAt H C c ys ts ∧ (decide (xs = ys) && decide (rs = ts)) = false) ∨
  (∃ T : String, (T = "NoneType" ∨ T = "int" ∨ T = "list" ∨ T = "tuple") ∧ TyE H y (.type T) ∧ TyX K H y (.type T))
theorem Other.same {K : PySem.W.Frag} {C : Addr} {H H' : Hp} {xs : List Str} {rs : List (List Str)} {y : V} (h : Other K C H xs rs y) (s : Same H H') : Other K C H' xs rs y := by
  rcases h with ⟨c, ys, ts, e, p, n⟩ | ⟨T, h1, h2, h3⟩
  · exact .inl ⟨c, ys, ts, e, p.same s, n⟩
  · exact .inr ⟨T, h1, h2.same s, TyX.same h3 s⟩
theorem Other.ty {K : PySem.W.Frag} {C fE a : Addr} {H : Hp} {xs : List Str} {rs : List (List Str)} {y : V} (Y : PanY K C fE) (pa : PanelAt H C a xs rs) (h : Other K C H xs rs y) :
    ∃ t, TyE H y t ∧ PySem.W.notFirst K C t = true ∧ DPan K C (.ref a) y H false := by
  rcases h with ⟨c, ys, ts, rfl, p, n⟩ | ⟨T, h1, h2, h3⟩
  · obtain ⟨dx, fs, N, R, cs, g, _⟩ := id p
    exact ⟨.ref C, .ins g, Y.nm, a, xs, rs, rfl, pa, .inl ⟨c, ys, ts, rfl, p, n.symm⟩⟩
  · exact ⟨.type T, h2, Y.nt T h1, a, xs, rs, rfl, pa, .inr ⟨T, h3, Y.no T h1, rfl⟩⟩
theorem RowsAt.app {H : Hp} {as bs : List Addr} {rs ts : List (List Str)} (h : RowsAt H as rs) (g : RowsAt H bs ts) : RowsAt H (as ++ bs) (rs ++ ts) := by
  induction h with
  | nil => exact g
  | cons e _ ih => exact .cons e ih
theorem RowsAt.tk {H : Hp} {as : List Addr} {rs : List (List Str)} (h : RowsAt H as rs) (m : Nat) : RowsAt H (as.take m) (rs.take m) := by
  induction h generalizing m with
  | nil => rw [List.take_nil, List.take_nil]; exact .nil
  | cons e _ ih =>
    cases m with
    | zero => exact .nil
    | succ m => exact .cons e (ih m)
theorem RowsAt.dr {H : Hp} {as : List Addr} {rs : List (List Str)} (h : RowsAt H as rs) (m : Nat) : RowsAt H (as.drop m) (rs.drop m) := by
  induction h generalizing m with
  | nil => rw [List.drop_nil, List.drop_nil]; exact .nil
  | cons e t ih =>
    cases m with
    | zero => exact .cons e t
    | succ m => exact ih m
theorem RowsAt.rev {H : Hp} {as : List Addr} {rs : List (List Str)} (h : RowsAt H as rs) : RowsAt H as.reverse rs.reverse := by
  induction h with
  | nil => exact .nil
  | cons e _ ih =>
    rw [List.reverse_cons, List.reverse_cons]
    exact ih.snoc e
theorem sorted_drop {xs : List Str} (h : sortedS xs = true) : sortedS (xs.drop 1) = true := by
  match xs, h with
  | [], h => exact h
  | [_], _ => rfl
  | x :: y :: r, h => exact (He.ba (show (!ltCps y.cps.toList x.cps.toList && risingS y r) = true from h)).2
theorem swap_ne {r : List Str} (nd : r.Nodup) (l : 2 ≤ r.length) (q : r = r.drop 1 ++ r.take 1) : False := by
  match r, l, nd, q with
  | x :: y :: t, _, nd, q =>
    injection q with q _
    exact (List.pairwise_cons.mp nd).1 y List.mem_cons_self q
theorem last_row {H : Hp} {as : List Addr} {rs : List (List Str)} (h : RowsAt H as rs) (r1 : 1 ≤ rs.length) (r2 : 2 ≤ rs.length) : ∃ (aL : Addr) (rL : List Str), atI (as.map V.ref) (-1) = some (V.ref aL) ∧ H aL = some (.lst (rL.map V.str)) ∧ (∀ r0 rs', rs = r0 :: rs' → r0 ≠ rL → rs ≠ rs.reverse) := by
  have l := h.len
  have hk : as[as.length - 1]? = some (as[as.length - 1]'(by omega)) := List.getElem?_eq_getElem _
  obtain ⟨rL, e1, e2⟩ := h.at hk
  refine ⟨_, rL, ?_, e2, fun r0 rs' e ne q => ne ?_⟩
  · have e3 : ixN (as.map V.ref).length (-1) = some (as.length - 1) := by
      unfold ixN
      rw [List.length_map, if_neg (by decide), if_pos (by omega)]
      congr 1
      omega
    show (ixN (as.map V.ref).length (-1)).bind (fun j => (as.map V.ref)[j]?) = _
    rw [e3]
    show (as.map V.ref)[as.length - 1]? = _
    rw [List.getElem?_map, hk]
    rfl
  · have a1 : rs[0]? = some r0 := by rw [e]; rfl
    have a2 : rs.reverse[0]? = some rL := by
      rw [List.getElem?_reverse (by omega), ← l]
      exact e1
    rw [← q, a1] at a2
    exact Option.some.inj a2
def spUnl (K : PySem.W.Frag) (C : Addr) : Sp := fun vs H Q _ => ∃ (p a n R : Addr) (xs : List Str) (as : List Addr) (rs : List (List Str)), vs = [.ref p, .ref a, .ref n, .ref R] ∧ PanelAt H C a xs rs ∧ H n = some (.lst (xs.map V.str)) ∧ Ents xs ∧ 1 ≤ xs.length ∧ xs.length ≤ 6 ∧
  H R = some (.lst (as.map V.ref)) ∧ RowsAt H as rs ∧ (∀ r ∈ rs, r.Perm xs) ∧ 1 ≤ rs.length ∧ rs.length ≤ 4 ∧ ∀ (H' : Hp), Same H H' → Q (.bl true) H'
section
variable {P : Program} {w : World} {K : PySem.W.Frag} {mg : Str → Option Value} {base : Heap} {C fE : Addr}
abbrev sUnl : Stmt := top 30
abbrev nUnl : List Str := ["_law_purse_here", "_law_panel", "_law_names_here", "_law_rows", "_law_others", "_law_swapped", "_law_other"]
theorem scUnl : FnScope nUnl ["_law_purse_here", "_law_panel", "_law_names_here", "_law_rows"] (defScope sUnl) := ⟨rfl, rfl, rfl, by decide +kernel, rfl, by decide +kernel, by decide +kernel⟩
theorem ok_unl {f fI : Addr} {fd fdI fdE : FuncData} (F : FnP K "_law_unlike_right" sUnl f fd) (L : Lib K mg) (Y : PanY K C fE) (M : Mk K C fI) (gP : mg "Panel" = some (.ref C))
    (FI : FnM K "__init__" "Panel.__init__" sInit fI fdI) (GI : FnOk P w K mg base (L2.CX P w) 4 fI fdI ["self", "entries", "rows"] (spInit K C))
    (FE : FnM K "__eq__" "Panel.__eq__" sEq fE fdE) (GE : FnOk P w K mg base CX0 1 fE fdE ["self", "other"] (spEqB (DPan K C))) : FnOk P w K mg base CX0 6 f fd ["_law_purse_here", "_law_panel", "_law_names_here", "_law_rows"] (spUnl K C) := by
  have bI : Binds K fdI ["self", "entries", "rows"] [] := FI.bindsN fun _ _ _ _ _ _ us hl => match us, hl with | [_, _, _], _ => rfl
  have bE : Binds K fdE ["self", "other"] [] := FE.bindsN fun _ _ _ _ _ _ us hl => match us, hl with | [_, _], _ => rfl
  refine okN F scUnl (fun vs H Q E h => ?_) (fun cdv A outer s H vs Q E hr h => ?_)
  · obtain ⟨_, _, _, _, _, _, _, rfl, _⟩ := h
    rfl
  · obtain ⟨p, a, n, R, xs, as, rs, rfl, hp, hn, hE, x1, x6, hR, hra, hrp, r1, r4, k⟩ := h
    have hu := hr.units
    have hu1 : (A.deeper (envOfC "_law_unlike_right" (defScope sUnl) s.heap.objs.size f cdv)).units + (0 + 1) < cLine := by omega
    have hr1 : Room 1 (A.deeper (envOfC "_law_unlike_right" (defScope sUnl) s.heap.objs.size f cdv)) := hr.mono (by decide)
    have hr2 : Room (1 + 1) (A.deeper (envOfC "_law_unlike_right" (defScope sUnl) s.heap.objs.size f cdv)) := hr.mono (by decide)
    refine ⟨_, pss_cons (ps_set (i := 4) scUnl.nd rfl (Or.inl rfl) (pe_lst (pa_cons (pe_makeS M GI hr (by rfl) gP bI (fun σ => passAt takes_none5 σ) (pa_cons (pv 2) (pa_cons (pe_op op_cat (pv 3) (pe_slice sl_list (pv 3) po_none (po_some pe_int))) pa_nil)))
          (pa_cons (pe_makeS M GI hr (by rfl) gP bI (fun σ => passAt takes_none5 σ) (pa_cons (pv 2) (pa_cons (pe_op op_cat (pe_revL (pv 3)) (pe_lst (pa_cons (pv 2) pa_nil))) pa_nil))) pa_nil))))
      (pss_cons (ps_if (pt_cmpR op_gt (pe_callB call_len_seq (by rfl) L.len PySem.boot_len (pa_cons (pv 2) pa_nil)) pe_int (nomark _))
        (pss_cons (ps_set (i := 5) scUnl.nd rfl (Or.inl rfl) (pe_op op_cat (pe_slice sl_list (pe_ix ix_list (pv 3) pe_int (fun _ _ => rfl)) (po_some pe_int) po_none) (pe_slice sl_list (pe_ix ix_list (pv 3) pe_int (fun _ _ => rfl)) po_none (po_some pe_int))))
        (pss_one (ps_set (i := 4) scUnl.nd rfl (Or.inl rfl) (pe_op op_cat (pv 4) (pe_lst (pa_cons (pe_makeS M GI hr (by rfl) gP bI (fun σ => passAt takes_none5 σ) (pa_cons (pv 2) (pa_cons (pe_op op_cat (pe_lst (pa_cons (pv 5) pa_nil)) (pe_slice sl_list (pv 3) (po_some pe_int) po_none)) pa_nil)))
          (pa_cons (pe_makeS M GI hr (by rfl) gP bI (fun σ => passAt takes_none5 σ) (pa_cons (pe_slice sl_list (pv 2) (po_some pe_int) po_none) (pa_cons (pe_lst (pa_cons (pe_slice sl_list (pv 2) (po_some pe_int) po_none) pa_nil)) pa_nil))) pa_nil))))))) pss_nil)
      (pss_cons (ps_if (PW.pt (pw_and (pt_cmpR op_gt (pe_callB call_len_seq (by rfl) L.len PySem.boot_len (pa_cons (pv 3) pa_nil)) pe_int (nomark _))
          (pw_and1 (pt_cmpR (op_neW (n := 0) hu1) (pe_ix ix_list (pv 3) pe_int (fun _ _ => rfl)) (pe_ix ix_list (pv 3) (pe_un un_neg pe_int) (fun _ _ => rfl)) (nomark _)))))
        (pss_one (ps_expr (pe_bm PySem.F.plainAttrs_list PySem.F.slot_list_append PySem.F.type_list_append mt_append (pv 4) (pa_cons (pe_makeS M GI hr (by rfl) gP bI (fun σ => passAt takes_none5 σ) (pa_cons (pv 2) (pa_cons (pe_revL (pv 3)) pa_nil))) pa_nil)))) pss_nil)
      (pss_cons (ps_set (i := 4) scUnl.nd rfl (Or.inl rfl) (pe_op op_cat (pv 4) (pe_lst (pa_cons pe_non (pa_cons (pv 3) (pa_cons (pv 2) (pa_cons (pe_tup (pa_cons (pv 2) (pa_cons (pv 3) pa_nil))) (pa_cons pe_int pa_nil))))))))
      (pss_one (ps_ret (pe_cmpR (op_eqW (n := 0) hu1)
        (pe_lc (own := [("_law_other", 6)]) (g := gName 6) (tt := tOr (tTest (tOp (rEqO K C (DPan K C)) (tVar 1) (tVar 6))) (tNot (tTest (tOp (rNeO K C (DPan K C)) (tVar 1) (tVar 6))))) (te := tVar 6) rfl scUnl.nd (pi_list (pv 4))
          (blkOk_by (N := nUnl) (sc := defScope sUnl) (by decide +kernel)) (fun _ _ _ _ _ => pg_name (i := 6) scUnl.nd rfl (Or.inl rfl))
          (fun _ _ _ _ _ => pts_one (PW.pt (pw_or (pt_cmpR (op_eqOwn GE hr1 Y.eq Y.fn bE) (pv 1) (pv 6) (nomark _)) (pw_or1 (pt_not (pt_cmpR (op_neOwn GE hr2 Y.ne Y.ob Y.eq Y.fn bE) (pv 1) (pv 6) (nomark _)))))))
          (fun _ _ _ _ _ => pv 6)) (pe_lst pa_nil) (nomark _))))))), ?_⟩
    have so := hE.so
    have lra := hra.len
    obtain ⟨a0, as', e0, r0, rs', f0, ha0⟩ : ∃ a0 as', as = a0 :: as' ∧ ∃ r0 rs', rs = r0 :: rs' ∧ H a0 = some (.lst (r0.map V.str)) := by
      cases hra with
      | nil => simp at r1
      | cons e _ => exact ⟨_, _, rfl, _, _, rfl, e⟩
    have ix0 : atI (as.map V.ref) 0 = some (V.ref a0) := by
      rw [e0]
      exact atI_nat (show ((a0 :: as').map V.ref)[0]? = some (V.ref a0) from rfl)
    have p0 : r0.Perm xs := hrp r0 (by rw [f0]; exact List.mem_cons_self)
    have l0 := p0.length_eq
    refine ⟨_, rfl, _, rfl, _, rfl, _, rfl, R, _, rfl, SqL.of hR, fun c1 q1 => ?_⟩
    rw [show cutV (as.map V.ref) none (some (1 : Int)) = (as.map V.ref).take 1 from cut_any (m := 1), ← List.map_take]
    have u1 : Same H (upd H c1 (.lst ((as.take 1).map V.ref))) := sn q1
    have w1 : upd H c1 (.lst ((as.take 1).map V.ref)) c1 = some (.lst ((as.take 1).map V.ref)) := upd_same
    generalize upd H c1 (.lst ((as.take 1).map V.ref)) = G1 at u1 w1 ⊢
    refine ⟨R, c1, _, _, rfl, rfl, u1 _ _ hR, w1, Nat.le_of_lt (small1000 (by simp; omega)), fun c2 q2 => ?_⟩
    rw [← List.map_append]
    have u2 : Same G1 (upd G1 c2 (.lst ((as ++ as.take 1).map V.ref))) := sn q2
    have w2 : upd G1 c2 (.lst ((as ++ as.take 1).map V.ref)) c2 = some (.lst ((as ++ as.take 1).map V.ref)) := upd_same
    generalize upd G1 c2 (.lst ((as ++ as.take 1).map V.ref)) = G2 at u2 w2 ⊢
    have t2 := u1.trans u2
    have ra2 := hra.same t2
    refine make_ok (t2 _ _ hn) hE.nm hE.nd x1 (by omega) (.refl _) so w2 (ra2.app (ra2.tk 1)) (fun y hy => ?_) (by simp; omega) (by simp; omega) fun P1 G3 u3 _ pa1 _ _ => ?_
    · rcases List.mem_append.mp hy with h | h
      · exact hrp y h
      · exact hrp y (List.mem_of_mem_take h)
    have t3 := t2.trans u3
    refine ⟨_, rfl, _, rfl, R, _, rfl, SqL.of (t3 _ _ hR), fun c3 q3 => ?_⟩
    rw [← List.map_reverse]
    have u4 : Same G3 (upd G3 c3 (.lst (as.reverse.map V.ref))) := sn q3
    have w4 : upd G3 c3 (.lst (as.reverse.map V.ref)) c3 = some (.lst (as.reverse.map V.ref)) := upd_same
    generalize upd G3 c3 (.lst (as.reverse.map V.ref)) = G4 at u4 w4 ⊢
    refine ⟨_, rfl, (show 1 ≤ sizeLine by decide), fun c4 q4 => ?_⟩
    have u5 : Same G4 (upd G4 c4 (.lst [.ref n])) := sn q4
    have w5 : upd G4 c4 (.lst [.ref n]) c4 = some (.lst ([n].map V.ref)) := upd_same
    generalize upd G4 c4 (.lst [.ref n]) = G5 at u5 w5 ⊢
    refine ⟨c3, c4, _, _, rfl, rfl, u5 _ _ w4, w5, Nat.le_of_lt (small1000 (by simp; omega)), fun c5 q5 => ?_⟩
    rw [← List.map_append]
    have u6 : Same G5 (upd G5 c5 (.lst ((as.reverse ++ [n]).map V.ref))) := sn q5
    have w6 : upd G5 c5 (.lst ((as.reverse ++ [n]).map V.ref)) c5 = some (.lst ((as.reverse ++ [n]).map V.ref)) := upd_same
    generalize upd G5 c5 (.lst ((as.reverse ++ [n]).map V.ref)) = G6 at u6 w6 ⊢
    have t6 := ((t3.trans u4).trans u5).trans u6
    refine make_ok (t6 _ _ hn) hE.nm hE.nd x1 (by omega) (.refl _) so w6 ((hra.same t6).rev.snoc (t6 _ _ hn)) (fun y hy => ?_) (by simp) (by simp; omega) fun P2 G7 u7 _ pa2 _ _ => ?_
    · rcases List.mem_append.mp hy with h | h
      · exact hrp y (List.mem_reverse.mp h)
      · rw [List.mem_singleton.mp h]
    refine ⟨(show 2 ≤ sizeLine by decide), fun L1 q6 => ?_⟩
    have o7 : ∀ v ∈ ([.ref P1, .ref P2] : List V), Other K C G7 xs rs v := by
      intro v hv
      simp only [List.mem_cons, List.not_mem_nil, or_false] at hv
      rcases hv with rfl | rfl
      · refine .inl ⟨P1, _, _, rfl, pa1.same (((u4.trans u5).trans u6).trans u7), ?_⟩
        rw [decide_eq_false (show ¬ rs = rs ++ rs.take 1 from fun q => by have z := congrArg List.length q; rw [List.length_append, List.length_take] at z; omega), Bool.and_false]
      · refine .inl ⟨P2, _, _, rfl, pa2, ?_⟩
        rw [decide_eq_false (show ¬ rs = rs.reverse ++ [xs] from fun q => by have := congrArg List.length q; simp at this), Bool.and_false]
    have u8 : Same G7 (upd G7 L1 (.lst [.ref P1, .ref P2])) := sn q6
    have w8 : upd G7 L1 (.lst [.ref P1, .ref P2]) L1 = some (.lst [.ref P1, .ref P2]) := upd_same
    generalize upd G7 L1 (.lst [.ref P1, .ref P2]) = G8 at u8 w8 ⊢
    have t8 := (t6.trans u7).trans u8
    have o8 : ∀ v ∈ ([.ref P1, .ref P2] : List V), Other K C G8 xs rs v := fun v hv => (o7 v hv).same u8
    have h8 : H L1 = none := (t6.trans u7).free q6
    have d8 : ∀ v ∈ ([.ref P1, .ref P2] : List V), Other K C (delH G8 L1) xs rs v := fun v hv => (o7 v hv).same (same_del u8 q6)
    refine ⟨_, rfl, n, _, rfl, .inl (SqL.of (t8 _ _ hn)), _, _, rfl, rfl, _, rfl, ?_⟩
    refine ite2 (fun hlen => ?_) (fun _ => ?_)
    have x2 : 2 ≤ xs.length := by
      have q := of_decide_eq_true hlen
      rw [List.length_map] at q
      omega
    refine ⟨_, rfl, R, _, 0, .ref a0, rfl, rfl, SqL.of (t8 _ _ hR), ix0, _, rfl, a0, _, rfl, SqL.of (t8 _ _ ha0), fun d1 k1 => ?_⟩
    rw [cutV_from (by rw [List.length_map]; omega), ← List.map_drop]
    have v1 : Same G8 (upd G8 d1 (.lst ((r0.drop 1).map V.str))) := sn k1
    have z1 : upd G8 d1 (.lst ((r0.drop 1).map V.str)) d1 = some (.lst ((r0.drop 1).map V.str)) := upd_same
    generalize upd G8 d1 (.lst ((r0.drop 1).map V.str)) = J1 at v1 z1 ⊢
    have s1 := t8.trans v1
    refine ⟨_, rfl, R, _, 0, .ref a0, rfl, rfl, SqL.of (s1 _ _ hR), ix0, _, rfl, a0, _, rfl, SqL.of (s1 _ _ ha0), fun d2 k2 => ?_⟩
    rw [show cutV (r0.map V.str) none (some (1 : Int)) = (r0.map V.str).take 1 from cut_any (m := 1), ← List.map_take]
    have v2 : Same J1 (upd J1 d2 (.lst ((r0.take 1).map V.str))) := sn k2
    have z2 : upd J1 d2 (.lst ((r0.take 1).map V.str)) d2 = some (.lst ((r0.take 1).map V.str)) := upd_same
    generalize upd J1 d2 (.lst ((r0.take 1).map V.str)) = J2 at v2 z2 ⊢
    refine ⟨d1, d2, _, _, rfl, rfl, v2 _ _ z1, z2, Nat.le_of_lt (small1000 (by simp; omega)), fun d3 k3 => ?_⟩
    rw [← List.map_append]
    have v3 : Same J2 (upd J2 d3 (.lst ((r0.drop 1 ++ r0.take 1).map V.str))) := sn k3
    have z3 : upd J2 d3 (.lst ((r0.drop 1 ++ r0.take 1).map V.str)) d3 = some (.lst ((r0.drop 1 ++ r0.take 1).map V.str)) := upd_same
    generalize upd J2 d3 (.lst ((r0.drop 1 ++ r0.take 1).map V.str)) = J3 at v3 z3 ⊢
    have s3 := (s1.trans v2).trans v3
    refine ⟨_, rfl, _, rfl, _, rfl, (show 1 ≤ sizeLine by decide), fun d4 k4 => ?_⟩
    have v4 : Same J3 (upd J3 d4 (.lst [.ref d3])) := sn k4
    have z4 : upd J3 d4 (.lst [.ref d3]) d4 = some (.lst ([d3].map V.ref)) := upd_same
    generalize upd J3 d4 (.lst [.ref d3]) = J4 at v4 z4 ⊢
    have s4 := s3.trans v4
    refine ⟨_, rfl, _, rfl, R, _, rfl, SqL.of (s4 _ _ hR), fun d5 k5 => ?_⟩
    rw [cutV_from (by rw [List.length_map]; omega), ← List.map_drop]
    have v5 : Same J4 (upd J4 d5 (.lst ((as.drop 1).map V.ref))) := sn k5
    have z5 : upd J4 d5 (.lst ((as.drop 1).map V.ref)) d5 = some (.lst ((as.drop 1).map V.ref)) := upd_same
    generalize upd J4 d5 (.lst ((as.drop 1).map V.ref)) = J5 at v5 z5 ⊢
    refine ⟨d4, d5, _, _, rfl, rfl, v5 _ _ z4, z5, Nat.le_of_lt (small1000 (by simp; omega)), fun d6 k6 => ?_⟩
    rw [← List.map_append]
    have v6 : Same J5 (upd J5 d6 (.lst (([d3] ++ as.drop 1).map V.ref))) := sn k6
    have z6 : upd J5 d6 (.lst (([d3] ++ as.drop 1).map V.ref)) d6 = some (.lst (([d3] ++ as.drop 1).map V.ref)) := upd_same
    generalize upd J5 d6 (.lst (([d3] ++ as.drop 1).map V.ref)) = J6 at v6 z6 ⊢
    have s6 := (s4.trans v5).trans v6
    have rd6 : RowsAt J6 ([d3] ++ as.drop 1) ([r0.drop 1 ++ r0.take 1] ++ rs.drop 1) := RowsAt.app (.cons (((v4.trans v5).trans v6) _ _ z3) .nil) ((hra.same s6).dr 1)
    have swp : (r0.drop 1 ++ r0.take 1).Perm xs := (List.perm_append_comm.trans (by rw [List.take_append_drop])).trans p0
    refine make_ok (s6 _ _ hn) hE.nm hE.nd x1 (by omega) (.refl _) so z6 rd6 (fun y hy => ?_) (by simp) (by simp; omega) fun P3 J7 v7 _ pa3 _ _ => ?_
    · rcases List.mem_append.mp hy with h | h
      · rw [List.mem_singleton.mp h]
        exact swp
      · exact hrp y (List.mem_of_mem_drop h)
    have s7 := s6.trans v7
    refine ⟨_, rfl, _, rfl, n, _, rfl, SqL.of (s7 _ _ hn), fun d7 k7 => ?_⟩
    rw [cutV_from (by rw [List.length_map]; omega), ← List.map_drop]
    have v8 : Same J7 (upd J7 d7 (.lst ((xs.drop 1).map V.str))) := sn k7
    have z8 : upd J7 d7 (.lst ((xs.drop 1).map V.str)) d7 = some (.lst ((xs.drop 1).map V.str)) := upd_same
    generalize upd J7 d7 (.lst ((xs.drop 1).map V.str)) = J8 at v8 z8 ⊢
    have s8 := s7.trans v8
    refine ⟨_, rfl, _, rfl, n, _, rfl, SqL.of (s8 _ _ hn), fun d8 k8 => ?_⟩
    rw [cutV_from (by rw [List.length_map]; omega), ← List.map_drop]
    have v9 : Same J8 (upd J8 d8 (.lst ((xs.drop 1).map V.str))) := sn k8
    have z9 : upd J8 d8 (.lst ((xs.drop 1).map V.str)) d8 = some (.lst ((xs.drop 1).map V.str)) := upd_same
    generalize upd J8 d8 (.lst ((xs.drop 1).map V.str)) = J9 at v9 z9 ⊢
    refine ⟨(show 1 ≤ sizeLine by decide), fun d9 k9 => ?_⟩
    have v10 : Same J9 (upd J9 d9 (.lst [.ref d8])) := sn k9
    have z10 : upd J9 d9 (.lst [.ref d8]) d9 = some (.lst ([d8].map V.ref)) := upd_same
    generalize upd J9 d9 (.lst [.ref d8]) = J10 at v10 z10 ⊢
    refine make_ok ((v9.trans v10) _ _ z8) (fun z hz => hE.nm z (List.mem_of_mem_drop hz)) (List.Nodup.sublist (List.drop_sublist _ _) hE.nd) (by rw [List.length_drop]; omega) (by rw [List.length_drop]; omega) (.refl _) (sorted_drop so) z10 (.cons (v10 _ _ z9) .nil) (fun y hy => ?_) (by simp) (by simp) fun P4 J11 v11 _ pa4 _ _ => ?_
    · rw [List.mem_singleton.mp hy]
    refine ⟨(show 2 ≤ sizeLine by decide), fun L2 k10 => ?_⟩
    have v12 : Same J11 (upd J11 L2 (.lst [.ref P3, .ref P4])) := sn k10
    have z12 : upd J11 L2 (.lst [.ref P3, .ref P4]) L2 = some (.lst [.ref P3, .ref P4]) := upd_same
    generalize upd J11 L2 (.lst [.ref P3, .ref P4]) = J12 at v12 z12 ⊢
    have s12 := (((s8.trans v9).trans v10).trans v11).trans v12
    have s812 : Same G8 J12 := (((((((((((v1.trans v2).trans v3).trans v4).trans v5).trans v6).trans v7).trans v8).trans v9).trans v10).trans v11).trans v12)
    refine ⟨L1, L2, _, _, rfl, rfl, s812 _ _ w8, z12, (show 2 + 2 ≤ sizeLine by decide), fun L1 k11 => ?_⟩
    have v13 : Same J12 (upd J12 L1 (.lst ([.ref P1, .ref P2] ++ [.ref P3, .ref P4]))) := sn k11
    have wx : upd J12 L1 (.lst ([.ref P1, .ref P2] ++ [.ref P3, .ref P4])) L1 = some (.lst ([.ref P1, .ref P2] ++ [.ref P3, .ref P4])) := upd_same
    generalize upd J12 L1 (.lst ([.ref P1, .ref P2] ++ [.ref P3, .ref P4])) = Gx at v13 wx ⊢
    have tx : Same H Gx := s12.trans v13
    have o12 : ∀ v ∈ ([.ref P1, .ref P2] ++ [.ref P3, .ref P4] : List V), Other K C J12 xs rs v := by
      intro v hv
      rcases List.mem_append.mp hv with h | h
      · exact (o8 v h).same s812
      · simp only [List.mem_cons, List.not_mem_nil, or_false] at h
        rcases h with rfl | rfl
        · refine .inl ⟨P3, _, _, rfl, pa3.same ((((v8.trans v9).trans v10).trans v11).trans v12), ?_⟩
          rw [decide_eq_false (show ¬ rs = [r0.drop 1 ++ r0.take 1] ++ rs.drop 1 from fun q => ?_), Bool.and_false]
          rw [f0] at q
          injection q with q _
          exact swap_ne (p0.nodup_iff.mpr hE.nd) (by omega) q
        · refine .inl ⟨P4, _, _, rfl, pa4.same v12, ?_⟩
          rw [decide_eq_false (show ¬ xs = xs.drop 1 from fun q => by have z := congrArg List.length q; rw [List.length_drop] at z; omega), Bool.false_and]
    have ox : ∀ v ∈ ([.ref P1, .ref P2] ++ [.ref P3, .ref P4] : List V), Other K C Gx xs rs v := fun v hv => (o12 v hv).same v13
    have dx : ∀ v ∈ ([.ref P1, .ref P2] ++ [.ref P3, .ref P4] : List V), Other K C (delH Gx L1) xs rs v := fun v hv => (o12 v hv).same (same_del v13 k11)
    have hLx : H L1 = none := s12.free k11
    have lx : ([.ref P1, .ref P2] ++ [.ref P3, .ref P4] : List V).length ≤ 4 := by simp
    generalize ([V.ref P1, .ref P2] ++ [.ref P3, .ref P4] : List V) = os at wx ox dx lx
    rotate_left
    have lx : ([.ref P1, .ref P2] : List V).length ≤ 4 := by simp
    generalize hos : ([V.ref P1, .ref P2] : List V) = os at w8 o8 d8 lx
    have tx := t8
    have wx := w8
    have ox := o8
    have dx := d8
    have hLx := h8
    rotate_left
    all_goals
      refine ⟨_, rfl, R, _, rfl, .inl (SqL.of (tx _ _ hR)), _, _, rfl, rfl, _, rfl, ?_⟩
      refine ite2 (fun hl2 => ?_) (fun _ => ?_)
      rotate_left
      generalize hy : os = oy at wx ox lx
      have ty := tx
      have ly : oy.length ≤ 5 := by omega
      rotate_left
      obtain ⟨aL, rL, ixL, haL, rev⟩ := last_row hra r1 (show 2 ≤ rs.length by have q := of_decide_eq_true hl2; rw [List.length_map] at q; omega)
      refine ⟨_, rfl, R, _, 0, .ref a0, rfl, rfl, SqL.of (tx _ _ hR), ix0, _, rfl, _, rfl, R, _, -1, .ref aL, rfl, rfl, SqL.of (tx _ _ hR), ixL, _, lists_strs (SqL.of (tx _ _ ha0)) (SqL.of (tx _ _ haL)), _, rfl, ?_⟩
      refine ite2 (fun hne => ?_) (fun _ => ?_)
      rotate_left
      generalize hy : os = oy at wx ox lx
      have ty := tx
      have ly : oy.length ≤ 5 := by omega
      rotate_right
      refine ⟨_, rfl, .inl ⟨rfl, _, SqL.of wx⟩, _, rfl, _, rfl, R, _, rfl, SqL.of (tx _ _ hR), fun e1 j1 => ?_⟩
      rw [← List.map_reverse]
      refine make_ok ((tx.trans (sn j1)) _ _ hn) hE.nm hE.nd x1 (by omega) (.refl _) so upd_same ((hra.same (tx.trans (sn j1))).rev) (fun y hy => hrp y (List.mem_reverse.mp hy)) (by rw [List.length_reverse]; omega) (by rw [List.length_reverse]; omega) fun P5 K1 m1 _ pa5 pd5 _ => ?_
      have tk := (sn (o := .lst (as.reverse.map V.ref)) j1).trans m1
      have ne2 : r0 ≠ rL := fun q => by
        rw [decide_eq_true q] at hne
        cases hne
      refine ⟨_, os, .ref P5, rfl, rfl, tk _ _ wx, small1000 (by omega), ?_⟩
      have wz : upd K1 L1 (.lst (os ++ [.ref P5])) L1 = some (.lst (os ++ [.ref P5])) := upd_same
      have tz : Same H (upd K1 L1 (.lst (os ++ [.ref P5]))) := fun b o e => by rw [upd_ne (ne_of_none e hLx)]; exact (tx.trans tk) b o e
      have oz : ∀ v ∈ os ++ [.ref P5], Other K C (upd K1 L1 (.lst (os ++ [.ref P5]))) xs rs v := fun v hv => by
        rcases List.mem_append.mp hv with h | h
        · exact (((dx v h).same (del_mono tk)).same del_upd).same del_sub
        · rw [List.mem_singleton.mp h]
          exact .inl ⟨P5, _, _, rfl, pd5.same (same_upd new_sub (new_none (by rw [(sn j1) _ _ wx]; simp))), by rw [decide_eq_false (rev _ _ f0 ne2), Bool.and_false]⟩
      generalize hy : os ++ [V.ref P5] = oy at wz tz oz ⊢
      have ly : oy.length ≤ 5 := by rw [← hy]; simp; omega
      have ty := tz
      have wx := wz
      have ox := oz
    all_goals
      refine ⟨_, rfl, _, rfl, _, rfl, _, rfl, _, rfl, (show 2 ≤ sizeLine by decide), fun tt j2 => ?_⟩
      refine ⟨(show 5 ≤ sizeLine by decide), fun M5 j3 => ?_⟩
      have m2 := (sn (o := .tup [.ref n, .ref R]) j2).trans (sn (o := .lst [.non, .ref R, .ref n, .ref tt, .int 5]) j3)
      refine ⟨_, M5, oy, _, rfl, rfl, m2 _ _ wx, upd_same, Nat.le_of_lt (small1000 (by simp; omega)), fun Lz j4 => ?_⟩
      have m3 := m2.trans (sn (o := .lst (oy ++ [.non, .ref R, .ref n, .ref tt, .int 5])) j4)
      refine ⟨_, rfl, Lz, rfl, ⟨_, SqL.of upd_same⟩, fun D hD => lc_list (K := K) (a := Lz) (xs := oy ++ [.non, .ref R, .ref n, .ref tt, .int 5]) (fun i H' => H' D = some (.lst []) ∧ Same H H' ∧ H' Lz = some (.lst (oy ++ [.non, .ref R, .ref n, .ref tt, .int 5])) ∧ ∀ v ∈ oy ++ [.non, .ref R, .ref n, .ref tt, .int 5], Other K C H' xs rs v) ?_ (fun i H' _ h => SqL.of h.2.2.1) ?_ ?_⟩
      · refine ⟨upd_same, (ty.trans m3).trans (sn hD), (sn hD) _ _ upd_same, fun v hv => ?_⟩
        rcases List.mem_append.mp hv with h | h
        · exact ((ox v h).same m3).same (sn hD)
        · simp only [List.mem_cons, List.not_mem_nil, or_false] at h
          rcases h with rfl | rfl | rfl | rfl | rfl
          · exact .inr ⟨_, .inl rfl, .non, .base .non⟩
          · exact .inr ⟨_, .inr (.inr (.inl rfl)), .lst (((ty.trans m3).trans (sn hD)) _ _ hR), .base (.lst (((ty.trans m3).trans (sn hD)) _ _ hR))⟩
          · exact .inr ⟨_, .inr (.inr (.inl rfl)), .lst (((ty.trans m3).trans (sn hD)) _ _ hn), .base (.lst (((ty.trans m3).trans (sn hD)) _ _ hn))⟩
          · exact .inr ⟨_, .inr (.inr (.inr rfl)), .tup (((sn j3).trans (sn j4)).trans (sn hD) _ _ upd_same), .base (.tup (((sn j3).trans (sn j4)).trans (sn hD) _ _ upd_same))⟩
          · exact .inr ⟨_, .inr (.inl rfl), .int _, .base (.int _)⟩
      · rintro i y H' hi ⟨b1, b2, b3, b4⟩
        have oth := b4 y (List.mem_of_getElem? hi)
        obtain ⟨T1, ty1, nf1, dp1⟩ := oth.ty Y (hp.same b2)
        obtain ⟨dx, fs, N, Rr, cs, ha, _⟩ := hp.same b2
        refine ⟨rfl, _, rfl, _, rfl, a, dx, fs, T1, false, rfl, ha, ty1, nf1, dp1, fun H2 y2 => ⟨_, rfl, ?_⟩⟩
        obtain ⟨T2, ty2, nf2, dp2⟩ := (oth.same y2).ty Y (hp.same (b2.trans y2))
        refine ⟨_, rfl, _, rfl, a, dx, fs, T2, false, rfl, y2 _ _ ha, ty2, nf2, dp2, fun H3 y3 => ⟨_, rfl, ?_⟩⟩
        exact ⟨(y2.trans y3) _ _ b1, b2.trans (y2.trans y3), (y2.trans y3) _ _ b3, fun v hv => (b4 v hv).same (y2.trans y3)⟩
      · rintro H' ⟨b1, b2, b3, b4⟩
        refine ⟨Nat.zero_le _, fun q nq => ⟨true, ⟨D, q, [], [], rfl, rfl, SqL.of ((sn nq) _ _ b1), SqL.of upd_same, .inr ⟨rfl, fun _ => true, (fun i x y e => by simp at e), rfl⟩⟩, ?_⟩⟩
        exact k _ (b2.trans (sn nq))
end
end K02

set_option maxHeartbeats 4000000
namespace K02
open PySem PySem.Spec PyProof.Rows L2 G1
/-! ### data that is small -/
structure FineN (d : PyData) (n w : Nat) : Prop where
  a : PyData.canLay0 d = true
  b : PyData.depth d ≤ n
  c : PyData.weight d ≤ w
  e : d.intsShort 13 = true
  f : d.showable = true
  g : d.hasDict = false
structure FineAll (ds : List PyData) (n w : Nat) : Prop where
  a : PyData.canLayAll0 ds = true
  b : PyData.depthAll ds ≤ n
  c : PyData.weightAll ds ≤ w
  e : PyData.intsShortAll 13 ds = true
  f : PyData.showableAll ds = true
  g : PyData.hasDictAll ds = false
theorem FineN.le {d : PyData} {n w : Nat} (h : FineN d n w) (hn : n ≤ 10) (hw : w ≤ 1000) : d.shown.length ≤ sizeLine := by
  have l : PyData.layable0 d = true := by
    unfold PyData.layable0
    rw [Bool.and_eq_true, Bool.and_eq_true]
    exact ⟨⟨h.a, decide_eq_true (Nat.le_trans (Nat.le_trans h.b hn) (by decide))⟩, decide_eq_true (Nat.le_trans (Nat.le_trans h.c hw) (by decide))⟩
  exact Nat.le_trans (shown_le13 l h.e) (by decide)
theorem FineN.shaped {d : PyData} {n w : Nat} (h : FineN d n w) (hn : n ≤ 10) : SeqAt.shaped d = true := by
  unfold SeqAt.shaped
  rw [Bool.and_eq_true]
  exact ⟨h.a, decide_eq_true (Nat.le_trans (Nat.le_trans h.b hn) (by decide))⟩
theorem FineN.mono {d : PyData} {n w n' w' : Nat} (h : FineN d n w) (hn : n ≤ n') (hw : w ≤ w') : FineN d n' w' := ⟨h.a, Nat.le_trans h.b hn, Nat.le_trans h.c hw, h.e, h.f, h.g⟩
theorem FineAll.nil (n w : Nat) : FineAll [] n w := by
  constructor <;> simp [PyData.canLayAll0, PyData.depthAll, PyData.weightAll, PyData.intsShortAll, PyData.showableAll, PyData.hasDictAll]
theorem FineAll.cons {d : PyData} {ds : List PyData} {n w v : Nat} (h : FineN d n w) (k : FineAll ds n v) : FineAll (d :: ds) n (w + 1 + v) := by
  obtain ⟨a1, a2, a3, a4, a5, a6⟩ := h
  obtain ⟨b1, b2, b3, b4, b5, b6⟩ := k
  constructor <;> simp only [PyData.canLayAll0, PyData.depthAll, PyData.weightAll, PyData.intsShortAll, PyData.showableAll, PyData.hasDictAll, a1, a4, a5, a6, b1, b4, b5, b6, Bool.and_self, Bool.or_self] <;> omega
theorem FineAll.list {ds : List PyData} {n w : Nat} (h : FineAll ds n w) : FineN (.list ds) (n + 1) w := by
  obtain ⟨a1, a2, a3, a4, a5, a6⟩ := h
  constructor <;> simp only [PyData.canLay0, PyData.depth, PyData.weight, PyData.intsShort, PyData.showable, PyData.hasDict, a1, a4, a5, a6] <;> omega
theorem strOk_of {z : Str} (h : Letters z) : PyData.strOk z = true := by
  unfold PyData.strOk
  rw [Array.all_eq_true_iff_forall_mem]
  intro c hc
  have := h c (Array.mem_toList_iff.mpr hc)
  exact decide_eq_true (by omega)
theorem fn_str {z : Str} (n : Nat) (h : Nm z) : FineN (.str z) n 8 := by
  have hl' : z.cps.size ≤ 8 := h.2.1
  have ok := strOk_of h.2.2
  constructor <;> simp only [PyData.canLay0, PyData.depth, PyData.weight, PyData.intsShort, PyData.showable, PyData.hasDict, ok] <;> omega
theorem fn_int (n : Nat) {m : Nat} (h1 : 1 ≤ m) (h4 : m ≤ 4) : FineN (.int (m : Int)) n 8 := by
  have e : m = 1 ∨ m = 2 ∨ m = 3 ∨ m = 4 := by omega
  have d : ∀ i ∈ [1, 2, 3, 4], PyData.canLay0 (.int (i : Int)) = true ∧ PyData.depth (.int (i : Int)) = 0 ∧ PyData.weight (.int (i : Int)) ≤ 8 ∧ PyData.intsShort 13 (.int (i : Int)) = true ∧ PyData.showable (.int (i : Int)) = true ∧ PyData.hasDict (.int (i : Int)) = false := by
    decide +kernel
  have hm : (m : Int) ∈ [1, 2, 3, 4] := by
    rcases e with rfl | rfl | rfl | rfl <;> simp
  obtain ⟨d1, d2, d3, d4, d5, d6⟩ := d _ hm
  exact ⟨d1, by rw [d2]; exact Nat.zero_le _, d3, d4, d5, d6⟩
def rd (r : List Str) : PyData := .list (r.map PyData.str)
def rsd (rs : List (List Str)) : PyData := .list (rs.map rd)
theorem fine_strs {r : List Str} (h : ∀ z ∈ r, Nm z) : FineAll (r.map PyData.str) 0 (9 * r.length) := by
  induction r with
  | nil => exact .nil _ _
  | cons z r ih =>
    have q := FineAll.cons (fn_str 0 (h z List.mem_cons_self)) (ih fun y hy => h y (List.mem_cons_of_mem _ hy))
    rw [List.map_cons, List.length_cons, show 9 * (r.length + 1) = 8 + 1 + 9 * r.length by omega]
    exact q
theorem fine_row {r : List Str} (h : ∀ z ∈ r, Nm z) (l : r.length ≤ 6) : FineN (rd r) 1 54 := (fine_strs h).list.mono (Nat.le_refl _) (by omega)
theorem fine_rows {rs : List (List Str)} (h : ∀ r ∈ rs, (∀ z ∈ r, Nm z) ∧ r.length ≤ 6) : FineAll (rs.map rd) 1 (55 * rs.length) := by
  induction rs with
  | nil => exact .nil _ _
  | cons r rs ih =>
    have q := FineAll.cons (fine_row (h r List.mem_cons_self).1 (h r List.mem_cons_self).2) (ih fun y hy => h y (List.mem_cons_of_mem _ hy))
    rw [List.map_cons, List.length_cons, show 55 * (rs.length + 1) = 54 + 1 + 55 * rs.length by omega]
    exact q
theorem fine_rsd {rs : List (List Str)} (h : ∀ r ∈ rs, (∀ z ∈ r, Nm z) ∧ r.length ≤ 6) (l : rs.length ≤ 4) : FineN (rsd rs) 2 220 := (fine_rows h).list.mono (Nat.le_refl _) (by omega)
theorem eqv_fine {d : PyData} {n w : Nat} (h : FineN d n w) : PyData.eqv d d = true := SeqAt.eqv_refl d h.a
theorem dps_strs {K : PySem.W.Frag} {H : Hp} (r : List Str) : DpAll K H (r.map V.str) (r.map PyData.str) := by
  induction r with
  | nil => exact .nil
  | cons z r ih => exact .cons (.str z) ih
theorem dp_row {K : PySem.W.Frag} {H : Hp} {a : Addr} {r : List Str} (h : H a = some (.lst (r.map V.str))) : Dp K H (.ref a) (rd r) := .lst (SqL.of h) (dps_strs r)
theorem dps_rows {K : PySem.W.Frag} {H : Hp} {as : List Addr} {rs : List (List Str)} (h : RowsAt H as rs) : DpAll K H (as.map V.ref) (rs.map rd) := by
  induction h with
  | nil => exact .nil
  | cons e _ ih => exact .cons (dp_row e) ih
theorem dp_rows {K : PySem.W.Frag} {H : Hp} {a : Addr} {as : List Addr} {rs : List (List Str)} (h : H a = some (.lst (as.map V.ref))) (r : RowsAt H as rs) : Dp K H (.ref a) (rsd rs) := .lst (SqL.of h) (dps_rows r)
/-- [list(row) for row in rows] -/
theorem lc_rows {K : PySem.W.Frag} {R : Addr} {as : List Addr} {rs : List (List Str)} {g : TG} {tt : TT} {te : TE} {vs : List Nat} {σ : L2.St} {H1 : Hp} {D : Addr} {Qd : Hp → Prop} (hR : H1 R = some (.lst (as.map V.ref))) (hra : RowsAt H1 as rs) (le : rs.length ≤ 60) (hD : H1 D = none)
    (hst : ∀ (c : Addr) (H' : Hp) (F : V → Hp → Prop) (E : Hp → Prop), (∃ p ys, [V.ref c] = [V.ref p] ∧ (SqL K H' p ys ∨ SqT K H' p ys) ∧ ∀ l, H' l = none → F (.ref l) (upd H' l (.lst ys))) →
      g (.ref c) (wipe σ vs) H' fun σ2 H2 => wipe σ2 vs = wipe σ vs ∧ tt σ2 H2 fun b H3 => if b = true then te σ2 H3 fun y H4 => F y H4 else E H3)
    (k : ∀ (ls : List Addr) (H' : Hp), H' D = some (.lst (ls.map V.ref)) → RowsAt H' ls rs → (∀ c ∈ ls, H1 c = none ∧ c ≠ D) → ls.Nodup → Same H1 H' → Qd H') :
    ∃ W : Nat → Nat → Hp → Prop, (∃ m, W 0 m (upd H1 D (.lst []))) ∧ ∀ i m H, W i m H →
      ((Itl K R).stop i H ∧ Qd H) ∨ ((Itl K R).go i H ∧ ∃ Nx : Hp → Prop, (∀ H', Nx H' → ∃ m', m' < m ∧ W (i + 1) m' H') ∧ ∀ x H', (Itl K R).yld i H x H' → g x (wipe σ vs) H' fun σ2 H2 => wipe σ2 vs = wipe σ vs ∧ tt σ2 H2 fun b H3 =>
        if b = true then te σ2 H3 fun y H4 => ∃ acc, H4 D = some (.lst acc) ∧ acc.length < sizeLine ∧ Nx (upd H4 D (.lst (acc ++ [y]))) else Nx H3) := by
  refine lc_list (K := K) (a := R) (xs := as.map V.ref) (fun i H' => ∃ ls : List Addr, H' D = some (.lst (ls.map V.ref)) ∧ RowsAt H' ls (rs.take i) ∧ (∀ c ∈ ls, H1 c = none ∧ c ≠ D) ∧ ls.Nodup ∧ Same H1 H') ?_ (fun i H' _ h => by obtain ⟨_, _, _, _, _, h⟩ := h; exact SqL.of (h _ _ hR)) ?_ ?_
  · exact ⟨[], upd_same, .nil, (fun c hc => nomatch hc), .nil, sn hD⟩
  · rintro i y H' hi ⟨ls, q1, q2, q3, qn, q4⟩
    rw [List.getElem?_map] at hi
    obtain ⟨c, hc, rfl⟩ := Option.map_eq_some_iff.mp hi
    obtain ⟨ws, hw1, hw2⟩ := hra.at hc
    refine hst c H' _ _ ⟨c, ws.map V.str, rfl, .inl (SqL.of (q4 _ _ hw2)), fun l nl => ?_⟩
    have s5 : Same H' (upd H' l (.lst (ws.map V.str))) := sn nl
    have fl : upd H' l (.lst (ws.map V.str)) l = some (.lst (ws.map V.str)) := upd_same
    generalize upd H' l (.lst (ws.map V.str)) = H5 at s5 fl ⊢
    have nlD : l ≠ D := fun q => by
      rw [q, q1] at nl
      cases nl
    have nla : l ∉ ls := fun hx => by
      obtain ⟨y, _, e⟩ := q2.strs hx
      rw [nl] at e
      cases e
    refine ⟨ls.map V.ref, s5 _ _ q1, ?_, ls ++ [l], by rw [upd_same, List.map_append]; rfl, ?_, ?_, ?_, fun b o e => ?_⟩
    · refine small1000 ?_
      rw [List.length_map, q2.len]
      have := List.length_take_le' i rs
      omega
    · have tk2 : rs.take (i + 1) = rs.take i ++ [ws] := by rw [List.take_succ, hw1]; rfl
      rw [tk2]
      refine RowsAt.snoc ((q2.same s5).keep fun x hx o e => ?_) ?_
      · rw [upd_ne (q3 x hx).2]
        exact e
      · rw [upd_ne nlD]
        exact fl
    · intro x hx
      rcases List.mem_append.mp hx with hx | hx
      · exact q3 x hx
      · rw [List.mem_singleton.mp hx]
        exact ⟨q4.free nl, nlD⟩
    · exact List.nodup_append.mpr ⟨qn, List.pairwise_singleton _ _, fun x hx z hz e => nla (by rw [← List.mem_singleton.mp hz, ← e]; exact hx)⟩
    · rw [upd_ne (ne_of_none e hD)]
      exact s5 _ _ (q4 _ _ e)
  · rintro H' ⟨ls, q1, q2, q3, qn, q4⟩
    have lr : (as.map V.ref).length = rs.length := by rw [List.length_map, hra.len]
    rw [lr, List.take_length] at q2
    exact k ls H' q1 q2 q3 qn q4
end K02

set_option maxHeartbeats 16000000
namespace K02
open PySem PySem.Spec PyProof.Rows L2 G1
def spRight : Sp := fun vs H Q _ => ∃ (p : Addr) (c : Nat), vs = [.ref p] ∧ Purse H p c ∧ c ≤ 60000 ∧ ∀ H', But p H H' → Purse H' p (c + 500) → Q (.bl true) H'
theorem same_but {Z H H' : Hp} {p : Addr} (s : Same Z H) (n : Z p = none) (b : But p H H') : Same Z H' := fun c o e => b c o (ne_of_none e n) (s c o e)
theorem none_of {Z H : Hp} {b : Addr} (s : Same Z H) (n : H b = none) : Z b = none := s.free n
theorem but_del {p : Addr} {H H' : Hp} (b : But p H H') : Same (delH H p) H' := fun c o e => by
  by_cases q : c = p
  · rw [q, delH_same] at e
    cases e
  · rw [delH_ne q] at e
    exact b c o q e
section
variable {P : Program} {w : World} {K : PySem.W.Frag} {mg : Str → Option Value} {base : Heap} {C fE : Addr}
abbrev sRight : Stmt := top 31
abbrev nRight : List Str := ["_law_purse_here", "_law_names_here", "_law_rows", "_law_passed", "_law_lists", "_law_kept", "_law_panel", "_law_seen", "_law_row"]
theorem scRight : FnScope nRight ["_law_purse_here"] (defScope sRight) := ⟨rfl, rfl, rfl, by decide +kernel, rfl, by decide +kernel, by decide +kernel⟩
abbrev teList : TE := tCB (fun xs H Q => ∃ p ys, xs = [V.ref p] ∧ (SqL K H p ys ∨ SqT K H p ys) ∧ ∀ l, H l = none → Q (.ref l) (upd H l (.lst ys))) (tCons (tVar 8) tNil)
theorem ok_right {f fI fD fN fR fS fU fX fEn fRw fLn : Addr} {fd fdI fdE fdD fdN fdR fdS fdU fdX fdEn fdRw fdLn : FuncData} (F : FnP K "_law_right" sRight f fd) (L : Lib K mg) (LP : LibP mg) (lr : mg "repr" = none) (Y : PanY K C fE) (M : Mk K C fI) (gP : mg "Panel" = some (.ref C))
    (FI : FnM K "__init__" "Panel.__init__" sInit fI fdI) (GI : FnOk P w K mg base (L2.CX P w) 4 fI fdI ["self", "entries", "rows"] (spInit K C))
    (FE : FnM K "__eq__" "Panel.__eq__" sEq fE fdE) (GE : FnOk P w K mg base CX0 1 fE fdE ["self", "other"] (spEqB (DPan K C)))
    (mEn : Meth K C "entries" fEn) (FEn : FnM K "entries" "Panel.entries" sEnt fEn fdEn) (GEn : FnOk P w K mg base CX0 1 fEn fdEn ["self"] (spEnt C))
    (mRw : Meth K C "rows" fRw) (FRw : FnM K "rows" "Panel.rows" sRws fRw fdRw) (GRw : FnOk P w K mg base CX0 1 fRw fdRw ["self"] (spRws C))
    (mLn : PySem.W.findIn K (.ref C) "__len__" = some (some (.ref fLn))) (iLn : PySem.W.isFn K (.ref fLn) = true) (FLn : FnM K "__len__" "Panel.__len__" sLen fLn fdLn) (GLn : FnOk P w K mg base CX0 1 fLn fdLn ["self"] (spLen C))
    (FD : FnP K "_law_draw" sDraw fD fdD) (gD : mg "_law_draw" = some (.ref fD)) (GD : FnOk P w K mg base CX0 2 fD fdD ["_law_purse_here", "_law_many"] spDraw)
    (FN : FnP K "_law_names" sNames fN fdN) (gN : mg "_law_names" = some (.ref fN)) (GN : FnOk P w K mg base CX0 4 fN fdN ["_law_purse_here", "_law_many"] spNames)
    (FR : FnP K "_law_rows_of" sRows fR fdR) (gR : mg "_law_rows_of" = some (.ref fR)) (GR : FnOk P w K mg base CX0 4 fR fdR ["_law_purse_here", "_law_names_here", "_law_many"] (spRows K))
    (FS : FnP K "_law_shuffled" sShuf fS fdS) (gS : mg "_law_shuffled" = some (.ref fS)) (GS : FnOk P w K mg base CX0 3 fS fdS ["_law_purse_here", "_law_some"] (spShuf K))
    (FU : FnP K "_law_unlike_right" sUnl fU fdU) (gU : mg "_law_unlike_right" = some (.ref fU)) (GU : FnOk P w K mg base CX0 6 fU fdU ["_law_purse_here", "_law_panel", "_law_names_here", "_law_rows"] (spUnl K C))
    (FX : FnP K "_law_refused_right" sRef fX fdX) (gX : mg "_law_refused_right" = some (.ref fX)) (GX : FnOk P w K mg base CX0 7 fX fdX ["_law_names_here", "_law_rows"] (spRef K)) :
    FnG P w K mg base 8 f fd ["_law_purse_here"] spRight := by
  have bI : Binds K fdI ["self", "entries", "rows"] [] := FI.bindsN fun _ _ _ _ _ _ us hl => match us, hl with | [_, _, _], _ => rfl
  have bE : Binds K fdE ["self", "other"] [] := FE.bindsN fun _ _ _ _ _ _ us hl => match us, hl with | [_, _], _ => rfl
  have bEn : Binds K fdEn ["self"] [] := FEn.bindsN fun _ _ _ _ _ _ us hl => match us, hl with | [_], _ => rfl
  have bRw : Binds K fdRw ["self"] [] := FRw.bindsN fun _ _ _ _ _ _ us hl => match us, hl with | [_], _ => rfl
  have bLn : Binds K fdLn ["self"] [] := FLn.bindsN fun _ _ _ _ _ _ us hl => match us, hl with | [_], _ => rfl
  have bD : Binds K fdD ["_law_purse_here", "_law_many"] [] := FD.bindsN fun _ _ _ _ _ _ us hl => match us, hl with | [_, _], _ => rfl
  have bN : Binds K fdN ["_law_purse_here", "_law_many"] [] := FN.bindsN fun _ _ _ _ _ _ us hl => match us, hl with | [_, _], _ => rfl
  have bR : Binds K fdR ["_law_purse_here", "_law_names_here", "_law_many"] [] := FR.bindsN fun _ _ _ _ _ _ us hl => match us, hl with | [_, _, _], _ => rfl
  have bS : Binds K fdS ["_law_purse_here", "_law_some"] [] := FS.bindsN fun _ _ _ _ _ _ us hl => match us, hl with | [_, _], _ => rfl
  have bU : Binds K fdU ["_law_purse_here", "_law_panel", "_law_names_here", "_law_rows"] [] := FU.bindsN fun _ _ _ _ _ _ us hl => match us, hl with | [_, _, _, _], _ => rfl
  have bX : Binds K fdX ["_law_names_here", "_law_rows"] [] := FX.bindsN fun _ _ _ _ _ _ us hl => match us, hl with | [_, _], _ => rfl
  refine gdN F scRight (fun vs H Q E h => ?_) (fun cdv A outer s H vs Q Ex hg hr h => ?_)
  · obtain ⟨_, _, rfl, _⟩ := h
    rfl
  · obtain ⟨p, c, rfl, hp, hc, k⟩ := h
    have hu := hr.units
    have r1 : Room 1 (A.deeper (envOfC "_law_right" (defScope sRight) s.heap.objs.size f cdv)) := hr.mono (by decide)
    have r2 : Room 2 (A.deeper (envOfC "_law_right" (defScope sRight) s.heap.objs.size f cdv)) := hr.mono (by decide)
    have r3 : Room 3 (A.deeper (envOfC "_law_right" (defScope sRight) s.heap.objs.size f cdv)) := hr.mono (by decide)
    have r4 : Room 4 (A.deeper (envOfC "_law_right" (defScope sRight) s.heap.objs.size f cdv)) := hr.mono (by decide)
    have r5 : Room 5 (A.deeper (envOfC "_law_right" (defScope sRight) s.heap.objs.size f cdv)) := hr.mono (by decide)
    have r6 : Room 6 (A.deeper (envOfC "_law_right" (defScope sRight) s.heap.objs.size f cdv)) := hr.mono (by decide)
    refine ⟨_, pss_cons (ps_set (i := 1) scRight.nd rfl (Or.inl rfl) (pe_call GN r4 rfl gN FN.kp bN .nil pass0 (pa_cons (pv 0) (pa_cons (pe_op op_add pe_int (pe_call GD r2 rfl gD FD.kp bD .nil pass0 (pa_cons (pv 0) (pa_cons pe_int pa_nil)))) pa_nil))))
      (pss_cons (ps_set (i := 2) scRight.nd rfl (Or.inl rfl) (pe_call GR r4 rfl gR FR.kp bR .nil pass0 (pa_cons (pv 0) (pa_cons (pv 1) (pa_cons (pe_op op_add pe_int (pe_call GD r2 rfl gD FD.kp bD .nil pass0 (pa_cons (pv 0) (pa_cons pe_int pa_nil)))) pa_nil)))))
      (pss_cons (ps_par (i := 3) (j := 4) (by rfl) scRight.nd rfl rfl (by decide) rfl rfl (pa_cons (pe_call GS r3 rfl gS FS.kp bS .nil pass0 (pa_cons (pv 0) (pa_cons (pv 1) pa_nil)))
          (pa_cons (pe_lc (own := [("_law_row", 8)]) (g := gName 8) (tt := tYes) (te := teList (K := K)) rfl scRight.nd (pi_list (pv 2))
            (blkOk_by (N := nRight) (sc := defScope sRight) (by decide +kernel)) (fun _ _ _ _ _ => pg_name (i := 8) scRight.nd rfl (Or.inl rfl)) (fun _ _ _ _ _ => pts_nil)
            (fun _ _ _ _ _ => pe_callTy call_list_of (by rfl) LP.list (by decide +kernel) (pa_cons (pv 8) pa_nil))) pa_nil)) (by rfl))
      (pss_cons (ps_set (i := 5) scRight.nd rfl (Or.inl rfl) (pe_lst (pa_cons (pe_callTy call_list_of (by rfl) LP.list (by decide +kernel) (pa_cons (pv 3) pa_nil))
          (pa_cons (pe_lc (own := [("_law_row", 8)]) (g := gName 8) (tt := tYes) (te := teList (K := K)) rfl scRight.nd (pi_list (pv 2))
            (blkOk_by (N := nRight) (sc := defScope sRight) (by decide +kernel)) (fun _ _ _ _ _ => pg_name (i := 8) scRight.nd rfl (Or.inl rfl)) (fun _ _ _ _ _ => pts_nil)
            (fun _ _ _ _ _ => pe_callTy call_list_of (by rfl) LP.list (by decide +kernel) (pa_cons (pv 8) pa_nil))) pa_nil))))
      (pss_cons (ps_set (i := 6) scRight.nd rfl (Or.inl rfl) (pe_makeS M GI r5 (by rfl) gP bI (fun σ => passAt takes_none5 σ) (pa_cons (pv 3) (pa_cons (pv 4) pa_nil))))
      (pss_cons (ps_if (pt_cmpR (op_neD hu) (pe_lst (pa_cons (pv 3) (pa_cons (pv 4) pa_nil))) (pv 5) (nomark _)) (pss_one (ps_ret pe_bl)) pss_nil)
      (pss_cons (ps_expr (pe_bm PySem.F.plainAttrs_list PySem.F.slot_list_append PySem.F.type_list_append mt_append (pv 3) (pa_cons pe_non pa_nil)))
      (pss_cons (ps_expr (pe_bm PySem.F.plainAttrs_list PySem.F.slot_list_append PySem.F.type_list_append mt_append (pe_ix ix_list (pv 4) pe_int (fun _ _ => rfl)) (pa_cons pe_non pa_nil)))
      (pss_cons (ps_expr (pe_bm PySem.F.plainAttrs_list PySem.F.slot_list_append PySem.F.type_list_append mt_append (pv 4) (pa_cons pe_non pa_nil)))
      (pss_cons (ps_set (i := 7) scRight.nd rfl (Or.inl rfl) (pe_lst (pa_cons (pe_meth0 (pv 6) Y.cls mEn GEn r1 bEn .nil pass0) (pa_cons (pe_meth0 (pv 6) Y.cls mRw GRw r1 bRw .nil pass0)
          (pa_cons (pe_callB (call_lenO GLn r2 mLn iLn bLn) (by rfl) L.len PySem.boot_len (pa_cons (pv 6) pa_nil)) pa_nil)))))
      (pss_cons (ps_if (pt_cmpR op_ne (pe_callB (call_repr hg hu) (by rfl) lr (by decide +kernel) (pa_cons (pv 7) pa_nil))
          (pe_callB (call_repr hg hu) (by rfl) lr (by decide +kernel) (pa_cons (pe_lst (pa_cons (pv 1) (pa_cons (pv 2) (pa_cons (pe_callB call_len_seq (by rfl) L.len PySem.boot_len (pa_cons (pv 2) pa_nil)) pa_nil)))) pa_nil)) (nomark _)) (pss_one (ps_ret pe_bl)) pss_nil)
      (pss_cons (ps_expr (pe_bm PySem.F.plainAttrs_list PySem.F.slot_list_append PySem.F.type_list_append mt_append (pe_ix ix_list (pv 7) pe_int (fun _ _ => rfl)) (pa_cons pe_non pa_nil)))
      (pss_cons (ps_expr (pe_bm PySem.F.plainAttrs_list PySem.F.slot_list_append PySem.F.type_list_append mt_append (pe_ix ix_list (pe_ix ix_list (pv 7) pe_int (fun _ _ => rfl)) pe_int (fun _ _ => rfl)) (pa_cons pe_non pa_nil)))
      (pss_cons (ps_expr (pe_bm PySem.F.plainAttrs_list PySem.F.slot_list_append PySem.F.type_list_append mt_append (pe_ix ix_list (pv 7) pe_int (fun _ _ => rfl)) (pa_cons pe_non pa_nil)))
      (pss_cons (ps_if (PW.pt (pw_or (pt_cmpR (op_neD hu) (pe_meth0 (pv 6) Y.cls mEn GEn r1 bEn .nil pass0) (pv 1) (nomark _))
          (pw_or (pt_cmpR (op_neD hu) (pe_meth0 (pv 6) Y.cls mRw GRw r1 bRw .nil pass0) (pv 2) (nomark _))
          (pw_or1 (pt_cmpR (op_neOwn GE r2 Y.ne Y.ob Y.eq Y.fn bE) (pv 6) (pe_makeS M GI r5 (by rfl) gP bI (fun σ => passAt takes_none5 σ) (pa_cons (pe_call GS r3 rfl gS FS.kp bS .nil pass0 (pa_cons (pv 0) (pa_cons (pv 1) pa_nil))) (pa_cons (pv 2) pa_nil))) (nomark _)))))) (pss_one (ps_ret pe_bl)) pss_nil)
      (pss_cons (ps_if (pt_not (pt_val (pe_call GU r6 rfl gU FU.kp bU .nil pass0 (pa_cons (pv 0) (pa_cons (pv 6) (pa_cons (pv 1) (pa_cons (pv 2) pa_nil))))))) (pss_one (ps_ret pe_bl)) pss_nil)
      (pss_one (ps_ret (pe_and (pe_call GX hr rfl gX FX.kp bX .nil pass0 (pa_cons (pv 1) (pa_cons (pv 2) pa_nil))) (pe_one (pe_cmpR (op_eqD hu) (pe_meth0 (pv 6) Y.cls mRw GRw r1 bRw .nil pass0) (pv 2) (nomark _))))))))))))))))))))), ?_⟩
    -- names
    refine ⟨_, rfl, _, rfl, p, 6, c, rfl, by decide, by decide, hp, by omega, fun q1 H1 q10 q11 hp1 b1 => ⟨_, _, rfl, rfl, p, 1 + q1, c + 3, rfl, by omega, by omega, hp1, by omega, fun n xs H2 hE hl2 hn2 nn1 hp2 b2 => ?_⟩⟩
    have nnp : n ≠ p := by
      obtain ⟨pv1, hpv1, _⟩ := id hp1
      exact fun q => by rw [q, hpv1] at nn1; cases nn1
    have x1 : 1 ≤ xs.length := by omega
    have x6 : xs.length ≤ 6 := by omega
    -- rows
    refine ⟨_, rfl, _, rfl, _, rfl, p, 4, _, rfl, by decide, by decide, hp2, by omega, fun q2 H3 q20 q21 hp3 b3 => ⟨_, _, rfl, rfl, p, n, 1 + q2, _, xs, rfl, by omega, by omega, hp3, by omega, SqL.of (b3 _ _ nnp hn2), nnp, hE.nd, x1, x6, fun R as rs H4 hR4 nR3 hra4 hfr hlen hrp hp4 b4 => ?_⟩⟩
    have rs1 : 1 ≤ rs.length := by omega
    have rs4 : rs.length ≤ 4 := by omega
    have hn4 := b4 _ _ nnp (b3 _ _ nnp hn2)
    have bAll : But p H H4 := ((b1.trans b2).trans b3).trans b4
    obtain ⟨pv3, hpv3, _⟩ := id hp3
    have nRp : R ≠ p := fun q => by rw [q, hpv3] at nR3; cases nR3
    have nas : ∀ a ∈ as, a ≠ p := fun a ha q => by
      have z := (hfr a ha).1
      rw [q, hpv3] at z
      cases z
    have zn : delH H4 p n = some (.lst (xs.map V.str)) := by rw [delH_ne nnp]; exact hn4
    have zR : delH H4 p R = some (.lst (as.map V.ref)) := by rw [delH_ne nRp]; exact hR4
    have zra : RowsAt (delH H4 p) as rs := hra4.keep fun c hc o e => by rw [delH_ne (nas c hc)]; exact e
    have zp : delH H4 p p = none := delH_same
    have sZ4 : Same (delH H4 p) H4 := del_sub
    have sHZ : Same (delH H p) (delH H4 p) := fun b o e => by
      by_cases q : b = p
      · rw [q, delH_same] at e
        cases e
      · rw [delH_ne q] at e ⊢
        exact bAll b o q e
    generalize delH H4 p = Z at zn zR zra zp sZ4 sHZ
    clear hn4 hR4 hra4 hfr bAll hpv3
    -- passed, lists
    refine ⟨_, rfl, _, rfl, p, n, xs.map V.str, _, rfl, hp4, by omega, SqL.of (sZ4 _ _ zn), nnp, by rw [List.length_map]; omega, fun Pa ys H5 pys hPa5 nPa4 hp5 b5 => ?_⟩
    rw [List.length_map] at hp5
    obtain ⟨zs, rfl, pzs⟩ := perm_strs pys
    have lz := pzs.length_eq
    have sZ5 := same_but sZ4 zp b5
    have zPa : Z Pa = none := none_of sZ4 nPa4
    have nPap : Pa ≠ p := by
      obtain ⟨pv4, hpv4, _⟩ := id hp4
      exact fun q => by rw [q, hpv4] at nPa4; cases nPa4
    refine ⟨_, rfl, R, rfl, ⟨_, SqL.of (sZ5 _ _ zR)⟩, fun Li nLi5 => lc_rows (sZ5 _ _ zR) (zra.same sZ5) (by omega) nLi5 (fun c' H' F E h => ⟨rfl, _, rfl, h⟩) fun ls H6 hLi6 hls6 fls ndl s56 => ?_⟩
    refine ⟨_, _, rfl, ?_⟩
    have s67 : Same H6 H6 := Same.refl _
    have s57 := s56.trans s67
    have sZ7 := sZ5.trans s57
    have hPa7 := s57 _ _ hPa5
    have hLi7 := s67 _ _ hLi6
    have hls7 := hls6.same s67
    have hp7 := hp5.same s57
    obtain ⟨pv5, hpv5, _⟩ := id hp5
    have zLi : Z Li = none := none_of sZ5 nLi5
    have nLiPa : Li ≠ Pa := fun q => by rw [q, hPa5] at nLi5; cases nLi5
    have nLip : Li ≠ p := fun q => by rw [q, hpv5] at nLi5; cases nLi5
    obtain ⟨l0, ls', els, r0, rs', ers, hl07⟩ : ∃ l0 ls', ls = l0 :: ls' ∧ ∃ r0 rs', rs = r0 :: rs' ∧ H6 l0 = some (.lst (r0.map V.str)) := by
      cases hls7 with
      | nil => simp at rs1
      | cons e _ => exact ⟨_, _, rfl, _, _, rfl, e⟩
    obtain ⟨nl05, nl0Li⟩ := fls l0 (by rw [els]; exact List.mem_cons_self)
    have zl0 : Z l0 = none := none_of sZ5 nl05
    have nl0Pa : l0 ≠ Pa := fun q => by rw [q, hPa5] at nl05; cases nl05
    have nl0p : l0 ≠ p := fun q => by rw [q, hpv5] at nl05; cases nl05
    have lr0 : r0.length ≤ 6 := by
      have z := (hrp r0 (by rw [ers]; exact List.mem_cons_self)).length_eq
      omega
    have lls : ls.length ≤ 4 := by have z := hls7.len; omega
    have ixl : atI (ls.map V.ref) 0 = some (V.ref l0) := by
      rw [els]
      exact atI_nat (show ((l0 :: ls').map V.ref)[0]? = some (V.ref l0) from rfl)
    -- kept
    refine ⟨_, rfl, Pa, _, rfl, .inl (SqL.of hPa7), fun K1 nK1 => ?_⟩
    have s78 : Same H6 (upd H6 K1 (.lst (zs.map V.str))) := sn nK1
    have hK18 : upd H6 K1 (.lst (zs.map V.str)) K1 = some (.lst (zs.map V.str)) := upd_same
    generalize upd H6 K1 (.lst (zs.map V.str)) = H8 at s78 hK18 ⊢
    have sZ8 := sZ7.trans s78
    refine ⟨_, rfl, R, rfl, ⟨_, SqL.of (sZ8 _ _ zR)⟩, fun K2 nK2 => lc_rows (sZ8 _ _ zR) (zra.same sZ8) (by omega) nK2 (fun c' H' F E h => ⟨rfl, _, rfl, h⟩) fun ks H9 hK29 hks9 _ _ s89 => ?_⟩
    refine ⟨(show 2 ≤ sizeLine by decide), fun K3 nK3 => ?_⟩
    have s910 : Same H9 (upd H9 K3 (.lst [.ref K1, .ref K2])) := sn nK3
    have hK3 : upd H9 K3 (.lst [.ref K1, .ref K2]) K3 = some (.lst [.ref K1, .ref K2]) := upd_same
    generalize upd H9 K3 (.lst [.ref K1, .ref K2]) = H10 at s910 hK3 ⊢
    have s8x := s89.trans s910
    have s7x := s78.trans s8x
    have hPax := s7x _ _ hPa7
    have hLix := s7x _ _ hLi7
    have hlsx := hls7.same s7x
    have hpx := hp7.same s7x
    have nmz : ∀ z ∈ zs, Nm z := fun z hz => hE.nm z (pzs.mem_iff.mp hz)
    refine ⟨_, rfl, _, rfl, make_ok hPax nmz (pzs.nodup_iff.mpr hE.nd) (by omega) (by omega) pzs.symm hE.so hLix hlsx hrp rs1 (by omega) fun PN H11 s1011 nPN pan pan0 fre0 => ?_⟩
    have pPa : newH H10 H11 Pa = none := new_none (by rw [hPax]; simp)
    have pLi : newH H10 H11 Li = none := new_none (by rw [hLix]; simp)
    have pl0 : newH H10 H11 l0 = none := new_none (by rw [s7x _ _ hl07]; simp)
    have pp : newH H10 H11 p = none := new_none (by obtain ⟨pvx, hpvx, _⟩ := id hpx; rw [hpvx]; simp)
    have sP11 : Same (newH H10 H11) H11 := new_sub
    generalize newH H10 H11 = Pz at pan0 fre0 sP11 pPa pLi pl0 pp
    clear pan
    -- both stay
    refine ⟨_, rfl, _, rfl, (show 2 ≤ sizeLine by decide), fun E1 nE1 => ?_⟩
    have s1112 : Same H11 (upd H11 E1 (.lst [.ref Pa, .ref Li])) := sn nE1
    have hE1 : upd H11 E1 (.lst [.ref Pa, .ref Li]) E1 = some (.lst [.ref Pa, .ref Li]) := upd_same
    generalize upd H11 E1 (.lst [.ref Pa, .ref Li]) = H12 at s1112 hE1 ⊢
    have sx12 := s1011.trans s1112
    have fin : ∀ r ∈ rs, (∀ z ∈ r, Nm z) ∧ r.length ≤ 6 := fun r hr => ⟨fun z hz => hE.nm z ((hrp r hr).mem_iff.mp hz), by have q := (hrp r hr).length_eq; omega⟩
    have fz : FineN (rd zs) 2 54 := (fine_row nmz (by omega)).mono (by decide) (by decide)
    have fx : FineN (rd xs) 2 54 := (fine_row hE.nm x6).mono (by decide) (by decide)
    have fr : FineN (rsd rs) 2 220 := fine_rsd fin rs4
    have fk : FineN (.list [rd zs, rsd rs]) 3 (54 + 1 + (220 + 1 + 0)) := (FineAll.cons fz (FineAll.cons fr (.nil 2 0))).list
    refine ⟨_, rfl, .list [rd zs, rsd rs], .list [rd zs, rsd rs], .lst (SqL.of hE1) (.cons (dp_row (sx12 _ _ hPax)) (.cons (dp_rows (sx12 _ _ hLix) (hlsx.same sx12)) .nil)),
      .lst (SqL.of (sx12 _ _ hK3)) (.cons (dp_row (sx12 _ _ (s8x _ _ hK18))) (.cons (dp_rows (sx12 _ _ (s910 _ _ hK29)) ((hks9.same s910).same sx12)) .nil)), fk.shaped (by decide), fk.shaped (by decide), _, rfl, ?_⟩
    rw [eqv_fine fk]
    refine iteF ?_
    have sZ12 : Same Z H12 := (sZ7.trans s7x).trans sx12
    have sP12 : Same Pz H12 := sP11.trans s1112
    have hPa12 := sx12 _ _ hPax
    have hLi12 := sx12 _ _ hLix
    have hl012 := sx12 _ _ (s7x _ _ hl07)
    have hp12 := hpx.same sx12
    clear hK18 hK29 hks9 hK3 hE1 hPax hLix hlsx hPa7 hLi7 hl07 hPa5 hLi6 hls6
    -- what was passed is changed
    refine ⟨_, rfl, .inl ⟨rfl, _, SqL.of hPa12⟩, _, _, .non, rfl, rfl, hPa12, small1000 (by rw [List.length_map]; omega), ?_⟩
    have sZ13 := same_upd (o := .lst (zs.map V.str ++ [.non])) sZ12 zPa
    have sP13 := same_upd (o := .lst (zs.map V.str ++ [.non])) sP12 pPa
    have hLi13 : upd H12 Pa (.lst (zs.map V.str ++ [.non])) Li = some (.lst (ls.map V.ref)) := by rw [upd_ne nLiPa]; exact hLi12
    have hl013 : upd H12 Pa (.lst (zs.map V.str ++ [.non])) l0 = some (.lst (r0.map V.str)) := by rw [upd_ne nl0Pa]; exact hl012
    have hp13 := hp12.but (But.upd (p := Pa) (o := .lst (zs.map V.str ++ [.non]))) (Ne.symm nPap)
    generalize upd H12 Pa (.lst (zs.map V.str ++ [.non])) = H13 at sZ13 sP13 hLi13 hl013 hp13 ⊢
    refine ⟨_, rfl, Li, _, 0, .ref l0, rfl, rfl, SqL.of hLi13, ixl, .inl ⟨rfl, _, SqL.of hl013⟩, _, _, .non, rfl, rfl, hl013, small1000 (by rw [List.length_map]; omega), ?_⟩
    have sZ14 := same_upd (o := .lst (r0.map V.str ++ [.non])) sZ13 zl0
    have sP14 := same_upd (o := .lst (r0.map V.str ++ [.non])) sP13 pl0
    have hLi14 : upd H13 l0 (.lst (r0.map V.str ++ [.non])) Li = some (.lst (ls.map V.ref)) := by rw [upd_ne (Ne.symm nl0Li)]; exact hLi13
    have hp14 := hp13.but (But.upd (p := l0) (o := .lst (r0.map V.str ++ [.non]))) (Ne.symm nl0p)
    generalize upd H13 l0 (.lst (r0.map V.str ++ [.non])) = H14 at sZ14 sP14 hLi14 hp14 ⊢
    refine ⟨_, rfl, .inl ⟨rfl, _, SqL.of hLi14⟩, _, _, .non, rfl, rfl, hLi14, small1000 (by rw [List.length_map]; omega), ?_⟩
    have sZ15 := same_upd (o := .lst (ls.map V.ref ++ [.non])) sZ14 zLi
    have sP15 := same_upd (o := .lst (ls.map V.ref ++ [.non])) sP14 pLi
    have hp15 := hp14.but (But.upd (p := Li) (o := .lst (ls.map V.ref ++ [.non]))) (Ne.symm nLip)
    generalize upd H14 Li (.lst (ls.map V.ref ++ [.non])) = H15 at sZ15 sP15 hp15 ⊢
    clear sZ12 sP12 hPa12 hLi12 hl012 hp12 sZ13 sP13 hLi13 hl013 hp13 sZ14 sP14 hLi14 hp14
    -- seen
    obtain ⟨dx, fs, fr1, fr2, fr3⟩ := fre0
    refine ⟨_, rfl, PN, dx, fs, rfl, sP15 _ _ fr1, fr2, PN, xs, rs, rfl, pan0.same sP15, fun Y1 H16 s1516 nY1 hY1 => ?_⟩
    refine ⟨_, rfl, PN, dx, fs, rfl, s1516 _ _ (sP15 _ _ fr1), fr3, PN, xs, rs, rfl, (pan0.same sP15).same s1516, by omega, fun Y2 ws H17 s1617 nY2 hY2 hws fws ndw => ?_⟩
    have sP17 := (sP15.trans s1516).trans s1617
    have sZ17 := (sZ15.trans s1516).trans s1617
    refine ⟨_, rfl, PN, dx, fs, (rs.length : Int), rfl, sP17 _ _ fr1, by omega, by omega, PN, xs, rs, rfl, pan0.same sP17, rfl, ?_⟩
    refine ⟨(show 3 ≤ sizeLine by decide), fun S nS => ?_⟩
    have s1718 : Same H17 (upd H17 S (.lst [.ref Y1, .ref Y2, .int (rs.length : Int)])) := sn nS
    have hS18 : upd H17 S (.lst [.ref Y1, .ref Y2, .int (rs.length : Int)]) S = some (.lst [.ref Y1, .ref Y2, .int (rs.length : Int)]) := upd_same
    generalize upd H17 S (.lst [.ref Y1, .ref Y2, .int (rs.length : Int)]) = H18 at s1718 hS18 ⊢
    have fse : FineN (.list [rd xs, rsd rs, .int (rs.length : Int)]) 3 (54 + 1 + (220 + 1 + (8 + 1 + 0))) := (FineAll.cons fx (FineAll.cons fr (FineAll.cons (fn_int 2 rs1 rs4) (.nil 2 0)))).list
    generalize hD : PyData.list [rd xs, rsd rs, .int (rs.length : Int)] = D at fse
    have dp1 : Dp K H18 (.ref S) D := by
      rw [← hD]
      exact .lst (SqL.of hS18) (.cons (dp_row (s1718 _ _ (s1617 _ _ hY1))) (.cons (dp_rows (s1718 _ _ hY2) (hws.same s1718)) (.cons (.int _) .nil)))
    have sZ18 := sZ17.trans s1718
    refine ⟨_, rfl, .ref S, D, rfl, .dp dp1, .inl fse.g, fse.f, Nat.le_trans fse.b (by decide), fse.le (by decide) (by decide), ?_⟩
    refine ⟨_, rfl, _, rfl, _, rfl, R, _, rfl, .inl (SqL.of (sZ18 _ _ zR)), (show 3 ≤ sizeLine by decide), fun S2 nS2 => ?_⟩
    have las : (as.map V.ref).length = rs.length := by rw [List.length_map, zra.len]
    rw [las]
    have s1819 : Same H18 (upd H18 S2 (.lst [.ref n, .ref R, .int (rs.length : Int)])) := sn nS2
    have hS219 : upd H18 S2 (.lst [.ref n, .ref R, .int (rs.length : Int)]) S2 = some (.lst [.ref n, .ref R, .int (rs.length : Int)]) := upd_same
    generalize upd H18 S2 (.lst [.ref n, .ref R, .int (rs.length : Int)]) = H19 at s1819 hS219 ⊢
    have sZ19 := sZ18.trans s1819
    have dp2 : Dp K H19 (.ref S2) D := by
      rw [← hD]
      exact .lst (SqL.of hS219) (.cons (dp_row (sZ19 _ _ zn)) (.cons (dp_rows (sZ19 _ _ zR) (zra.same sZ19)) (.cons (.int _) .nil)))
    refine ⟨.ref S2, D, rfl, .dp dp2, .inl fse.g, fse.f, Nat.le_trans fse.b (by decide), fse.le (by decide) (by decide), rfl, _, rfl, iteNS rfl ?_⟩
    have sP19 := (sP17.trans s1718).trans s1819
    have s1619 := (s1617.trans s1718).trans s1819
    have hp19 := hp15.same (s1516.trans s1619)
    have hY119 := s1619 _ _ hY1
    have s1719 := s1718.trans s1819
    have hY219 := s1719 _ _ hY2
    have hS19 := s1819 _ _ hS18
    obtain ⟨w0, ws', ews, hw019⟩ : ∃ w0 ws', ws = w0 :: ws' ∧ H19 w0 = some (.lst (r0.map V.str)) := by
      have q := hws.same s1719
      rw [ers] at q
      cases q with
      | cons e _ => exact ⟨_, _, rfl, e⟩
    obtain ⟨nw016, nw0Y2⟩ := fws w0 (by rw [ews]; exact List.mem_cons_self)
    obtain ⟨pv15, hpv15, _⟩ := id hp15
    have nY1p : Y1 ≠ p := fun q => by rw [q, hpv15] at nY1; cases nY1
    have nY2p : Y2 ≠ p := fun q => by rw [q, s1516 _ _ hpv15] at nY2; cases nY2
    have nw0p : w0 ≠ p := fun q => by rw [q, s1516 _ _ hpv15] at nw016; cases nw016
    have nY2Y1 : Y2 ≠ Y1 := fun q => by rw [q, hY1] at nY2; cases nY2
    have nw0Y1 : w0 ≠ Y1 := fun q => by rw [q, hY1] at nw016; cases nw016
    have nSY1 : S ≠ Y1 := fun q => by rw [q, s1617 _ _ hY1] at nS; cases nS
    have nSY2 : S ≠ Y2 := fun q => by rw [q, hY2] at nS; cases nS
    have nSw0 : S ≠ w0 := fun q => by
      have e := hws
      rw [ews, ers] at e
      cases e with
      | cons e _ => rw [q, e] at nS; cases nS
    have zY1 : Z Y1 = none := none_of sZ15 nY1
    have qY1 : Pz Y1 = none := none_of sP15 nY1
    have zY2 : Z Y2 = none := none_of (sZ15.trans s1516) nY2
    have qY2 : Pz Y2 = none := none_of (sP15.trans s1516) nY2
    have zw0 : Z w0 = none := none_of (sZ15.trans s1516) nw016
    have qw0 : Pz w0 = none := none_of (sP15.trans s1516) nw016
    have lws : ws.length ≤ 4 := by have z := hws.len; omega
    have ixw : atI (ws.map V.ref) 0 = some (V.ref w0) := by
      rw [ews]
      exact atI_nat (show ((w0 :: ws').map V.ref)[0]? = some (V.ref w0) from rfl)
    clear hY1 hY2 hS18 hws fws dp1 dp2 hS219 ndw
    refine ⟨_, rfl, S, _, 0, .ref Y1, rfl, rfl, SqL.of hS19, atI_nat (show ([.ref Y1, .ref Y2, .int (rs.length : Int)] : List V)[0]? = some (V.ref Y1) from rfl), .inl ⟨rfl, _, SqL.of hY119⟩, _, _, .non, rfl, rfl, hY119, small1000 (by rw [List.length_map]; omega), ?_⟩
    have sZ20 := same_upd (o := .lst (xs.map V.str ++ [.non])) sZ19 zY1
    have sP20 := same_upd (o := .lst (xs.map V.str ++ [.non])) sP19 qY1
    have hS20 : upd H19 Y1 (.lst (xs.map V.str ++ [.non])) S = some (.lst [.ref Y1, .ref Y2, .int (rs.length : Int)]) := by rw [upd_ne nSY1]; exact hS19
    have hY220 : upd H19 Y1 (.lst (xs.map V.str ++ [.non])) Y2 = some (.lst (ws.map V.ref)) := by rw [upd_ne nY2Y1]; exact hY219
    have hw020 : upd H19 Y1 (.lst (xs.map V.str ++ [.non])) w0 = some (.lst (r0.map V.str)) := by rw [upd_ne nw0Y1]; exact hw019
    have hp20 := hp19.but (But.upd (p := Y1) (o := .lst (xs.map V.str ++ [.non]))) (Ne.symm nY1p)
    generalize upd H19 Y1 (.lst (xs.map V.str ++ [.non])) = H20 at sZ20 sP20 hS20 hY220 hw020 hp20 ⊢
    have ix1 : atI ([.ref Y1, .ref Y2, .int (rs.length : Int)] : List V) 1 = some (V.ref Y2) := atI_nat (j := 1) (show ([.ref Y1, .ref Y2, .int (rs.length : Int)] : List V)[1]? = some (V.ref Y2) from rfl)
    refine ⟨_, rfl, S, _, 1, .ref Y2, rfl, rfl, SqL.of hS20, ix1, Y2, _, 0, .ref w0, rfl, rfl, SqL.of hY220, ixw, .inl ⟨rfl, _, SqL.of hw020⟩, _, _, .non, rfl, rfl, hw020, small1000 (by rw [List.length_map]; omega), ?_⟩
    have sZ21 := same_upd (o := .lst (r0.map V.str ++ [.non])) sZ20 zw0
    have sP21 := same_upd (o := .lst (r0.map V.str ++ [.non])) sP20 qw0
    have hS21 : upd H20 w0 (.lst (r0.map V.str ++ [.non])) S = some (.lst [.ref Y1, .ref Y2, .int (rs.length : Int)]) := by rw [upd_ne nSw0]; exact hS20
    have hY221 : upd H20 w0 (.lst (r0.map V.str ++ [.non])) Y2 = some (.lst (ws.map V.ref)) := by rw [upd_ne (Ne.symm nw0Y2)]; exact hY220
    have hp21 := hp20.but (But.upd (p := w0) (o := .lst (r0.map V.str ++ [.non]))) (Ne.symm nw0p)
    generalize upd H20 w0 (.lst (r0.map V.str ++ [.non])) = H21 at sZ21 sP21 hS21 hY221 hp21 ⊢
    refine ⟨_, rfl, S, _, 1, .ref Y2, rfl, rfl, SqL.of hS21, ix1, .inl ⟨rfl, _, SqL.of hY221⟩, _, _, .non, rfl, rfl, hY221, small1000 (by rw [List.length_map]; omega), ?_⟩
    have sZ22 := same_upd (o := .lst (ws.map V.ref ++ [.non])) sZ21 zY2
    have sP22 := same_upd (o := .lst (ws.map V.ref ++ [.non])) sP21 qY2
    have hp22 := hp21.but (But.upd (p := Y2) (o := .lst (ws.map V.ref ++ [.non]))) (Ne.symm nY2p)
    generalize upd H21 Y2 (.lst (ws.map V.ref ++ [.non])) = H22 at sZ22 sP22 hp22 ⊢
    -- the panel stays
    refine ⟨_, rfl, PN, dx, fs, rfl, sP22 _ _ fr1, fr2, PN, xs, rs, rfl, pan0.same sP22, fun V1 H23 s2223 nV1 hV1 => ?_⟩
    have sZ23 := sZ22.trans s2223
    have sP23 := sP22.trans s2223
    refine ⟨_, rfl, rd xs, rd xs, dp_row hV1, dp_row (sZ23 _ _ zn), fx.shaped (by decide), fx.shaped (by decide), ?_⟩
    rw [eqv_fine fx]
    refine ⟨_, rfl, ?_⟩
    refine ⟨_, rfl, PN, dx, fs, rfl, sP23 _ _ fr1, fr3, PN, xs, rs, rfl, pan0.same sP23, by omega, fun V2 us H24 s2324 nV2 hV2 hus _ _ => ?_⟩
    have sZ24 := sZ23.trans s2324
    have sP24 := sP23.trans s2324
    refine ⟨_, rfl, rsd rs, rsd rs, dp_rows hV2 hus, dp_rows (sZ24 _ _ zR) (zra.same sZ24), fr.shaped (by decide), fr.shaped (by decide), ?_⟩
    rw [eqv_fine fr]
    refine ⟨_, rfl, ?_⟩
    have hp24 := hp22.same (s2223.trans s2324)
    refine ⟨_, rfl, _, rfl, _, rfl, p, n, xs.map V.str, _, rfl, hp24, by omega, SqL.of (sZ24 _ _ zn), nnp, by rw [List.length_map]; omega, fun Pb ys2 H25 pys2 hPb nPb hp25 b25 => ?_⟩
    rw [List.length_map] at hp25
    obtain ⟨us2, rfl, pus⟩ := perm_strs pys2
    have lus := pus.length_eq
    have sZ25 := same_but sZ24 zp b25
    have sP25 := same_but sP24 pp b25
    refine ⟨_, rfl, make_ok hPb (fun z hz => hE.nm z (pus.mem_iff.mp hz)) (pus.nodup_iff.mpr hE.nd) (by omega) (by omega) pus.symm hE.so (sZ25 _ _ zR) (zra.same sZ25) hrp rs1 (by omega) fun PM H26 s2526 nPM pan2 _ _ => ?_⟩
    have sZ26 := sZ25.trans s2526
    have sP26 := sP25.trans s2526
    obtain ⟨dx2, fs2, _, _, _, hPM, _⟩ := id pan2
    refine ⟨PN, dx, fs, .ref C, true, rfl, sP26 _ _ fr1, .ins hPM, Y.nm, ⟨PN, xs, rs, rfl, pan0.same sP26, .inl ⟨PM, xs, rs, rfl, pan2, by rw [decide_eq_true rfl, decide_eq_true rfl]; rfl⟩⟩, fun H27 s2627 => ⟨_, rfl, ?_⟩⟩
    have sZ27 := sZ26.trans s2627
    have sP27 := sP26.trans s2627
    refine ⟨_, rfl, _, rfl, _, rfl, _, rfl, p, PN, n, R, xs, as, rs, rfl, pan0.same sP27, sZ27 _ _ zn, hE, x1, x6, sZ27 _ _ zR, zra.same sZ27, hrp, rs1, rs4, fun H28 s2728 => ⟨_, rfl, ?_⟩⟩
    have sZ28 := sZ27.trans s2728
    have sP28 := sP27.trans s2728
    refine ⟨_, rfl, _, rfl, n, R, xs, as, rs, rfl, sZ28 _ _ zn, hE, x1, x6, sZ28 _ _ zR, zra.same sZ28, hrp, rs1, rs4, fun H29 s2829 => ⟨true, rfl, iteT ?_⟩⟩
    have sZ29 := sZ28.trans s2829
    have sP29 := sP28.trans s2829
    refine ⟨_, rfl, PN, dx, fs, rfl, sP29 _ _ fr1, fr3, PN, xs, rs, rfl, pan0.same sP29, by omega, fun V3 us3 H30 s2930 nV3 hV3 hus3 _ _ => ?_⟩
    have sZ30 := sZ29.trans s2930
    refine ⟨_, rfl, rsd rs, rsd rs, dp_rows hV3 hus3, dp_rows (sZ30 _ _ zR) (zra.same sZ30), fr.shaped (by decide), fr.shaped (by decide), ?_⟩
    rw [eqv_fine fr]
    refine k H30 (fun b o nb e => (sHZ.trans sZ30) b o (by rw [delH_ne nb]; exact e)) ?_
    exact (hp25.same ((((s2526.trans s2627).trans s2728).trans s2829).trans s2930)).mono (by omega)
end
end K02

set_option maxHeartbeats 16000000
namespace K02
open PySem PySem.Spec PyProof.Rows L2 G1
def spLaw (K : PySem.W.Frag) : Sp := fun vs H Q _ => ∃ (a : Addr) (ns : List Int), vs = [.ref a] ∧ SqL K H a (ns.map V.int) ∧ ∀ H', Q (.bl true) H'
theorem nm_z : Nm ("z" : Str) := isNm_iff.mp (by decide +kernel)
theorem nm_a : Nm ("a" : Str) := isNm_iff.mp (by decide +kernel)
theorem nm_b : Nm ("b" : Str) := isNm_iff.mp (by decide +kernel)
theorem nm_rows : Nm ("rows" : Str) := isNm_iff.mp (by decide +kernel)
/-- the list of rows of a and b that is none -/
theorem rows_odd {K : PySem.W.Frag} {H : Hp} {r1 r2 R : Addr} {xs : List Str} (h1 : H r1 = some (.lst [.str "a", .str "b"])) (h2 : H r2 = some (.lst [.str "b"])) (hR : H R = some (.lst [.ref r1, .ref r2])) (p : xs.Perm ["b", "a"]) (so : sortedS xs = true) : RowsV K H xs (.ref R) false := by
  have ex : xs = (["a", "b"] : List Str) := sorted_uniq so (by decide +kernel) (p.trans (List.Perm.swap _ _ _))
  subst ex
  have q1 : RowV K H ["a", "b"] (.ref r1) true := .lst h1 (by decide) (.cons (.str _) (.cons (.str _) .nil)) ⟨fun _ => ⟨["a", "b"], rfl, .refl _⟩, fun _ => rfl⟩
  have q2 : RowV K H ["a", "b"] (.ref r2) false := .lst h2 (by decide) (.cons (.str _) .nil) ⟨(fun q => nomatch q), fun ⟨zs, e, pz⟩ => by
    have l1 := congrArg List.length e
    have l2 := pz.length_eq
    rw [List.length_map] at l1
    simp at l1 l2
    omega⟩
  exact .lst hR (show 2 ≤ 60 by decide) (.cons q1 (.cons q2 .nil))
section
variable {P : Program} {w : World} {K : PySem.W.Frag} {mg : Str → Option Value} {base : Heap} {C fE : Addr}
abbrev sLaw : Stmt := top 32
abbrev nLaw : List Str := ["_law_script", "_law_purse_here", "_law_lone"]
theorem scLaw : FnScope nLaw ["_law_script"] (defScope sLaw) := ⟨rfl, rfl, rfl, by decide +kernel, rfl, by decide +kernel, by decide +kernel⟩
theorem ok_law {f fI fP fR fC fEn fRw fLn : Addr} {fd fdI fdE fdP fdR fdC fdEn fdRw fdLn : FuncData} (F : FnP K "law" sLaw f fd) (L : Lib K mg) (Y : PanY K C fE) (M : Mk K C fI) (gP : mg "Panel" = some (.ref C))
    (FI : FnM K "__init__" "Panel.__init__" sInit fI fdI) (GI : FnOk P w K mg base (L2.CX P w) 4 fI fdI ["self", "entries", "rows"] (spInit K C))
    (FE : FnM K "__eq__" "Panel.__eq__" sEq fE fdE) (GE : FnOk P w K mg base CX0 1 fE fdE ["self", "other"] (spEqB (DPan K C)))
    (mEn : Meth K C "entries" fEn) (FEn : FnM K "entries" "Panel.entries" sEnt fEn fdEn) (GEn : FnOk P w K mg base CX0 1 fEn fdEn ["self"] (spEnt C))
    (mRw : Meth K C "rows" fRw) (FRw : FnM K "rows" "Panel.rows" sRws fRw fdRw) (GRw : FnOk P w K mg base CX0 1 fRw fdRw ["self"] (spRws C))
    (mLn : PySem.W.findIn K (.ref C) "__len__" = some (some (.ref fLn))) (iLn : PySem.W.isFn K (.ref fLn) = true) (FLn : FnM K "__len__" "Panel.__len__" sLen fLn fdLn) (GLn : FnOk P w K mg base CX0 1 fLn fdLn ["self"] (spLen C))
    (FP : FnP K "_law_purses" sPurses fP fdP) (gPs : mg "_law_purses" = some (.ref fP)) (GP : FnOk P w K mg base CX0 2 fP fdP ["_law_script", "_law_few"] (spPurses K))
    (FR : FnP K "_law_right" sRight fR fdR) (gR : mg "_law_right" = some (.ref fR)) (GR : FnG P w K mg base 8 fR fdR ["_law_purse_here"] spRight)
    (FC : FnP K "_law_caught" sCaught fC fdC) (gC : mg "_law_caught" = some (.ref fC)) (GC : FnOk P w K mg base CX0 6 fC fdC ["_law_names_here", "_law_rows"] (spCaught K)) :
    FnG P w K mg base 9 f fd ["_law_script"] (spLaw K) := by
  have bI : Binds K fdI ["self", "entries", "rows"] [] := FI.bindsN fun _ _ _ _ _ _ us hl => match us, hl with | [_, _, _], _ => rfl
  have bE : Binds K fdE ["self", "other"] [] := FE.bindsN fun _ _ _ _ _ _ us hl => match us, hl with | [_, _], _ => rfl
  have bEn : Binds K fdEn ["self"] [] := FEn.bindsN fun _ _ _ _ _ _ us hl => match us, hl with | [_], _ => rfl
  have bRw : Binds K fdRw ["self"] [] := FRw.bindsN fun _ _ _ _ _ _ us hl => match us, hl with | [_], _ => rfl
  have bLn : Binds K fdLn ["self"] [] := FLn.bindsN fun _ _ _ _ _ _ us hl => match us, hl with | [_], _ => rfl
  have bP : Binds K fdP ["_law_script", "_law_few"] [] := FP.bindsN fun _ _ _ _ _ _ us hl => match us, hl with | [_, _], _ => rfl
  have bR : Binds K fdR ["_law_purse_here"] [] := FR.bindsN fun _ _ _ _ _ _ us hl => match us, hl with | [_], _ => rfl
  have bC : Binds K fdC ["_law_names_here", "_law_rows"] [] := FC.bindsN fun _ _ _ _ _ _ us hl => match us, hl with | [_, _], _ => rfl
  refine gdN F scLaw (fun vs H Q E h => ?_) (fun cdv A outer s H vs Q Ex hg hr h => ?_)
  · obtain ⟨_, _, rfl, _⟩ := h
    rfl
  · obtain ⟨a, ns, rfl, hS, k⟩ := h
    have hu := hr.units
    have r1 : Room 1 (A.deeper (envOfC "law" (defScope sLaw) s.heap.objs.size f cdv)) := hr.mono (by decide)
    have r2 : Room 2 (A.deeper (envOfC "law" (defScope sLaw) s.heap.objs.size f cdv)) := hr.mono (by decide)
    have r5 : Room 5 (A.deeper (envOfC "law" (defScope sLaw) s.heap.objs.size f cdv)) := hr.mono (by decide)
    have r6 : Room 6 (A.deeper (envOfC "law" (defScope sLaw) s.heap.objs.size f cdv)) := hr.mono (by decide)
    refine ⟨_, pss_cons (ps_for PassesOwn.never rfl (pi_list (pe_call GP r2 (by rfl) gPs FP.kp bP .nil pass0 (pa_cons (pv 0) (pa_cons pe_int pa_nil)))) (pg_name (i := 1) scLaw.nd rfl (Or.inl rfl))
        (pss_one (ps_if (pt_not (pt_val (pe_callG GR hg hr (by rfl) gR FR.kp bR .nil (pa_cons (pv 1) pa_nil)))) (pss_one (ps_ret pe_bl)) pss_nil)))
      (pss_cons (ps_set (i := 2) scLaw.nd rfl (Or.inl rfl) (pe_makeS M GI r5 (by rfl) gP bI (fun σ => passAt takes_none5 σ) (pa_cons (pe_lst (pa_cons pe_str pa_nil)) (pa_cons (pe_lst (pa_cons (pe_lst (pa_cons pe_str pa_nil)) (pa_cons (pe_lst (pa_cons pe_str pa_nil)) pa_nil))) pa_nil))))
      (pss_cons (ps_if (PW.pt (pw_or (pt_cmpR (op_neD hu) (pe_lst (pa_cons (pe_meth0 (pv 2) Y.cls mEn GEn r1 bEn .nil pass0) (pa_cons (pe_meth0 (pv 2) Y.cls mRw GRw r1 bRw .nil pass0)
            (pa_cons (pe_callB (call_lenO GLn r2 mLn iLn bLn) (by rfl) L.len PySem.boot_len (pa_cons (pv 2) pa_nil)) pa_nil))))
            (pe_lst (pa_cons (pe_lst (pa_cons pe_str pa_nil)) (pa_cons (pe_lst (pa_cons (pe_lst (pa_cons pe_str pa_nil)) (pa_cons (pe_lst (pa_cons pe_str pa_nil)) pa_nil))) (pa_cons pe_int pa_nil)))) (nomark _))
          (pw_or1 (pt_cmpR (op_eqOwn GE r1 Y.eq Y.fn bE) (pv 2) (pe_makeS M GI r5 (by rfl) gP bI (fun σ => passAt takes_none5 σ) (pa_cons (pe_lst (pa_cons pe_str pa_nil)) (pa_cons (pe_lst (pa_cons (pe_lst (pa_cons pe_str pa_nil)) pa_nil)) pa_nil))) (nomark _))))) (pss_one (ps_ret pe_bl)) pss_nil)
      (pss_one (ps_ret (pe_cmpR (op_eqD hu) (pe_call GC r6 (by rfl) gC FC.kp bC .nil pass0 (pa_cons (pe_lst (pa_cons pe_str (pa_cons pe_str pa_nil))) (pa_cons (pe_lst (pa_cons (pe_lst (pa_cons pe_str (pa_cons pe_str pa_nil))) (pa_cons (pe_lst (pa_cons pe_str pa_nil)) pa_nil))) pa_nil)))
        (pe_lst (pa_cons pe_str (pa_cons (pe_lst (pa_cons (pe_lst (pa_cons pe_str (pa_cons pe_str pa_nil))) (pa_cons (pe_lst (pa_cons pe_str pa_nil)) pa_nil))) pa_nil))) (nomark _)))))), ?_⟩
    have e1 : 1 ≤ sizeLine := by decide
    have e2 : 2 ≤ sizeLine := by decide
    have e3 : 3 ≤ sizeLine := by decide
    refine ⟨_, rfl, a, 2, ns, rfl, hS, by decide, fun D ps H1 nD hD hps lps s1 => ?_⟩
    refine ⟨D, rfl, ⟨_, SqL.of hD⟩, for_list (K := K) (a := D) (xs := ps.map V.ref) (fun i σ H' => ∃ o1 : Option V, σ = [some (.ref a), o1, none] ∧ H' D = some (.lst (ps.map V.ref)) ∧ ∀ p ∈ ps, Purse H' p (500 * i) ∧ p ≠ D)
      ⟨none, rfl, hD, hps⟩ (fun i σ H' _ h => by obtain ⟨_, _, h, _⟩ := h; exact SqL.of h) ?_ ?_⟩
    · rintro i y σ H2 hi ⟨o1, rfl, hD2, hp2⟩
      have hi1 : i < ps.length := by
        have q := (List.getElem?_eq_some_iff.mp hi).1
        rw [List.length_map] at q
        exact q
      rw [List.getElem?_map] at hi
      obtain ⟨p, hp, rfl⟩ := Option.map_eq_some_iff.mp hi
      have hpm : p ∈ ps := List.mem_of_getElem? hp
      obtain ⟨hpp, npD⟩ := hp2 p hpm
      refine ⟨_, rfl, p, 500 * i, rfl, hpp, by omega, fun H3 b3 hp3 => ⟨_, rfl, ?_⟩⟩
      refine ⟨_, rfl, b3 _ _ (Ne.symm npD) hD2, fun q hq => ?_⟩
      obtain ⟨hq2, nqD⟩ := hp2 q hq
      refine ⟨?_, nqD⟩
      by_cases e : q = p
      · rw [e]
        exact hp3.mono (by omega)
      · exact (hq2.but b3 e).mono (by omega)
    · rintro σ H2 ⟨o1, rfl, _, _⟩
      clear hD hps s1 hS
      -- the lone panel
      refine ⟨e1, fun l1 n1 => ⟨e1, fun l2 n2 => ⟨e1, fun l3 n3 => ⟨e2, fun l4 n4 => ?_⟩⟩⟩⟩
      have s2 := sn (o := .lst [.str "z"]) n1
      have s3 := sn (o := .lst [.str "z"]) n2
      have s4 := sn (o := .lst [.str "z"]) n3
      have s5 := sn (o := .lst [.ref l2, .ref l3]) n4
      have f1 := (s3.trans (s4.trans s5)) _ _ (upd_same (H := H2) (a := l1))
      have f2 := (s4.trans s5) _ _ (upd_same (a := l2))
      have f3 := s5 _ _ (upd_same (a := l3))
      have f4 := upd_same (a := l4) (o := HO.lst [.ref l2, .ref l3]) (H := upd (upd (upd H2 l1 (.lst [.str "z"])) l2 (.lst [.str "z"])) l3 (.lst [.str "z"]))
      generalize upd (upd (upd (upd H2 l1 (.lst [.str "z"])) l2 (.lst [.str "z"])) l3 (.lst [.str "z"])) l4 (.lst [.ref l2, .ref l3]) = H3 at f1 f2 f3 f4 ⊢
      clear s2 s3 s4 s5 n1 n2 n3 n4
      have nz : ∀ z ∈ (["z"] : List Str), Nm z := fun z hz => by rw [List.mem_singleton.mp hz]; exact nm_z
      refine make_ok (zs := ["z"]) (xs := ["z"]) (as := [l2, l3]) (rs := [["z"], ["z"]]) f1 nz (by simp) (by decide) (by decide) (.refl _) (by decide +kernel) f4 (.cons f2 (.cons f3 .nil)) (fun y hy => ?_) (by decide) (by decide) fun PN H4 s34 nPN pan pan0 fre0 => ?_
      · rcases List.mem_cons.mp hy with rfl | hy
        · exact .refl _
        · rw [List.mem_singleton.mp hy]
      obtain ⟨dx, fs, fr1, fr2, fr3⟩ := fre0.same new_sub
      clear pan0 fre0
      -- what it tells
      refine ⟨_, rfl, PN, dx, fs, rfl, fr1, fr2, PN, ["z"], [["z"], ["z"]], rfl, pan, fun Y1 H5 s45 nY1 hY1 => ?_⟩
      refine ⟨_, rfl, PN, dx, fs, rfl, s45 _ _ fr1, fr3, PN, ["z"], [["z"], ["z"]], rfl, pan.same s45, by decide, fun Y2 ws H6 s56 nY2 hY2 hws _ _ => ?_⟩
      have s46 := s45.trans s56
      refine ⟨_, rfl, PN, dx, fs, (2 : Int), rfl, s46 _ _ fr1, by decide, by decide, PN, ["z"], [["z"], ["z"]], rfl, pan.same s46, rfl, ?_⟩
      refine ⟨e3, fun S n5 => ?_⟩
      have s67 := sn (o := .lst [.ref Y1, .ref Y2, .int 2]) n5
      have hS7 := upd_same (a := S) (o := HO.lst [.ref Y1, .ref Y2, .int 2]) (H := H6)
      generalize upd H6 S (.lst [.ref Y1, .ref Y2, .int 2]) = H7 at s67 hS7 ⊢
      refine ⟨e1, fun m1 k1 => ⟨e1, fun m2 k2 => ⟨e1, fun m3 k3 => ⟨e2, fun m4 k4 => ⟨e3, fun m5 k5 => ?_⟩⟩⟩⟩⟩
      have t1 := sn (o := .lst [.str "z"]) k1
      have t2 := sn (o := .lst [.str "z"]) k2
      have t3 := sn (o := .lst [.str "z"]) k3
      have t4 := sn (o := .lst [.ref m2, .ref m3]) k4
      have t5 := sn (o := .lst [.ref m1, .ref m4, .int 2]) k5
      have g1 := (t2.trans (t3.trans (t4.trans t5))) _ _ (upd_same (H := H7) (a := m1))
      have g2 := (t3.trans (t4.trans t5)) _ _ (upd_same (a := m2))
      have g3 := (t4.trans t5) _ _ (upd_same (a := m3))
      have g4 := t5 _ _ (upd_same (a := m4))
      have g5 := upd_same (a := m5) (o := HO.lst [.ref m1, .ref m4, .int 2]) (H := upd (upd (upd (upd H7 m1 (.lst [.str "z"])) m2 (.lst [.str "z"])) m3 (.lst [.str "z"])) m4 (.lst [.ref m2, .ref m3]))
      have s78 := t1.trans (t2.trans (t3.trans (t4.trans t5)))
      generalize upd (upd (upd (upd (upd H7 m1 (.lst [.str "z"])) m2 (.lst [.str "z"])) m3 (.lst [.str "z"])) m4 (.lst [.ref m2, .ref m3])) m5 (.lst [.ref m1, .ref m4, .int 2]) = H8 at g1 g2 g3 g4 g5 s78 ⊢
      clear t1 t2 t3 t4 t5 k1 k2 k3 k4 k5
      have fz : FineN (rd ["z"]) 2 54 := (fine_row nz (by decide)).mono (by decide) (by decide)
      have fzz : FineN (rsd [["z"], ["z"]]) 2 220 := fine_rsd (fun r hr => by
        have e : r = (["z"] : List Str) := by
          rcases List.mem_cons.mp hr with e | hr
          · exact e
          · exact List.mem_singleton.mp hr
        rw [e]
        exact ⟨nz, by decide⟩) (by decide)
      have fd : FineN (.list [rd ["z"], rsd [["z"], ["z"]], .int (2 : Int)]) 3 (54 + 1 + (220 + 1 + (8 + 1 + 0))) := (FineAll.cons fz (FineAll.cons fzz (FineAll.cons (fn_int (m := 2) 2 (by decide) (by decide)) (.nil 2 0)))).list
      have s68 := s67.trans s78
      refine ⟨.list [rd ["z"], rsd [["z"], ["z"]], .int (2 : Int)], .list [rd ["z"], rsd [["z"], ["z"]], .int (2 : Int)], .lst (SqL.of (s78 _ _ hS7)) (.cons (dp_row (s68 _ _ (s56 _ _ hY1))) (.cons (dp_rows (s68 _ _ hY2) (hws.same s68)) (.cons (.int _) .nil))),
        .lst (SqL.of g5) (.cons (dp_row (r := ["z"]) g1) (.cons (dp_rows (as := [m2, m3]) (rs := [["z"], ["z"]]) g4 (.cons g2 (.cons g3 .nil))) (.cons (.int _) .nil))), fd.shaped (by decide), fd.shaped (by decide), ?_⟩
      rw [eqv_fine fd]
      refine ⟨_, rfl, ?_⟩
      -- another one
      have s48 := s46.trans s68
      refine ⟨_, rfl, e1, fun o1 j1 => ⟨e1, fun o2 j2 => ⟨e1, fun o3 j3 => ?_⟩⟩⟩
      have u1 := sn (o := .lst [.str "z"]) j1
      have u2 := sn (o := .lst [.str "z"]) j2
      have u3 := sn (o := .lst [.ref o2]) j3
      have y1 := (u2.trans u3) _ _ (upd_same (H := H8) (a := o1))
      have y2 := u3 _ _ (upd_same (a := o2))
      have y3 := upd_same (a := o3) (o := HO.lst [.ref o2]) (H := upd (upd H8 o1 (.lst [.str "z"])) o2 (.lst [.str "z"]))
      have s89 := u1.trans (u2.trans u3)
      generalize upd (upd (upd H8 o1 (.lst [.str "z"])) o2 (.lst [.str "z"])) o3 (.lst [.ref o2]) = H9 at y1 y2 y3 s89 ⊢
      clear u1 u2 u3 j1 j2 j3
      refine make_ok (zs := ["z"]) (xs := ["z"]) (as := [o2]) (rs := [["z"]]) y1 nz (by simp) (by decide) (by decide) (.refl _) (by decide +kernel) y3 (.cons y2 .nil) (fun y hy => by rw [List.mem_singleton.mp hy]) (by decide) (by decide) fun PM H10 s910 nPM pan2 _ _ => ?_
      obtain ⟨dx2, fs2, _, _, _, hPM, _⟩ := id pan2
      have s4x := (s48.trans s89).trans s910
      refine ⟨PN, dx, fs, .ref C, false, rfl, s4x _ _ fr1, .ins hPM, Y.nm, ⟨PN, ["z"], [["z"], ["z"]], rfl, pan.same s4x, .inl ⟨PM, ["z"], [["z"]], rfl, pan2, by decide +kernel⟩⟩, fun H11 _ => ⟨_, rfl, ?_⟩⟩
      -- the rows are told
      refine ⟨e2, fun a1 d1 => ⟨e2, fun a2 d2 => ⟨e1, fun a3 d3 => ⟨e2, fun a4 d4 => ?_⟩⟩⟩⟩
      have v1 := sn (o := .lst [.str "b", .str "a"]) d1
      have v2 := sn (o := .lst [.str "a", .str "b"]) d2
      have v3 := sn (o := .lst [.str "b"]) d3
      have v4 := sn (o := .lst [.ref a2, .ref a3]) d4
      have h1 := (v2.trans (v3.trans v4)) _ _ (upd_same (H := H11) (a := a1))
      have h2 := (v3.trans v4) _ _ (upd_same (a := a2))
      have h3 := v4 _ _ (upd_same (a := a3))
      have h4 := upd_same (a := a4) (o := HO.lst [.ref a2, .ref a3]) (H := upd (upd (upd H11 a1 (.lst [.str "b", .str "a"])) a2 (.lst [.str "a", .str "b"])) a3 (.lst [.str "b"]))
      generalize upd (upd (upd (upd H11 a1 (.lst [.str "b", .str "a"])) a2 (.lst [.str "a", .str "b"])) a3 (.lst [.str "b"])) a4 (.lst [.ref a2, .ref a3]) = H12 at h1 h2 h3 h4 ⊢
      clear v1 v2 v3 v4 d1 d2 d3 d4
      have nba : ∀ z ∈ (["b", "a"] : List Str), Nm z := fun z hz => by
        rcases List.mem_cons.mp hz with rfl | hz
        · exact nm_b
        · rw [List.mem_singleton.mp hz]
          exact nm_a
      refine ⟨.ref a1, .ref a4, rfl, .inr ⟨unl_names (zs := ["b", "a"]) h1 (by decide) nba (by decide +kernel) (by decide), ⟨a1, ["b", "a"], rfl, SqL.of h1, by decide, fun xs px so => rows_odd h2 h3 h4 px so⟩, fun D2 H13 s1213 nD2 hD2 => ?_⟩⟩
      refine ⟨e2, fun b1 c1 => ⟨e1, fun b2 c2 => ⟨e2, fun b3 c3 => ⟨e2, fun b4 c4 => ?_⟩⟩⟩⟩
      have x1 := sn (o := .lst [.str "a", .str "b"]) c1
      have x2 := sn (o := .lst [.str "b"]) c2
      have x3 := sn (o := .lst [.ref b1, .ref b2]) c3
      have x4 := sn (o := .lst [.str "rows", .ref b3]) c4
      have z1 := (x2.trans (x3.trans x4)) _ _ (upd_same (H := H13) (a := b1))
      have z2 := (x3.trans x4) _ _ (upd_same (a := b2))
      have z3 := x4 _ _ (upd_same (a := b3))
      have z4 := upd_same (a := b4) (o := HO.lst [.str "rows", .ref b3]) (H := upd (upd (upd H13 b1 (.lst [.str "a", .str "b"])) b2 (.lst [.str "b"])) b3 (.lst [.ref b1, .ref b2]))
      have s1314 := x1.trans (x2.trans (x3.trans x4))
      generalize upd (upd (upd (upd H13 b1 (.lst [.str "a", .str "b"])) b2 (.lst [.str "b"])) b3 (.lst [.ref b1, .ref b2])) b4 (.lst [.str "rows", .ref b3]) = H14 at z1 z2 z3 z4 s1314 ⊢
      have s1214 := s1213.trans s1314
      have fab : FineN (rsd [["a", "b"], ["b"]]) 2 220 := fine_rsd (fun r hr => by
        rcases List.mem_cons.mp hr with rfl | hr
        · exact ⟨fun z hz => by
            rcases List.mem_cons.mp hz with rfl | hz
            · exact nm_a
            · rw [List.mem_singleton.mp hz]
              exact nm_b, by decide⟩
        · rw [List.mem_singleton.mp hr]
          exact ⟨fun z hz => by rw [List.mem_singleton.mp hz]; exact nm_b, by decide⟩) (by decide)
      have fe : FineN (.list [.str "rows", rsd [["a", "b"], ["b"]]]) 3 (8 + 1 + (220 + 1 + 0)) := (FineAll.cons (fn_str 2 nm_rows) (FineAll.cons fab (.nil 2 0))).list
      refine ⟨.list [.str "rows", rsd [["a", "b"], ["b"]]], .list [.str "rows", rsd [["a", "b"], ["b"]]], .lst (SqL.of (s1314 _ _ hD2)) (.cons (.str _) (.cons (dp_rows (as := [a2, a3]) (rs := [["a", "b"], ["b"]]) (s1214 _ _ h4) (.cons (s1214 _ _ h2) (.cons (s1214 _ _ h3) .nil))) .nil)),
        .lst (SqL.of z4) (.cons (.str _) (.cons (dp_rows (as := [b1, b2]) (rs := [["a", "b"], ["b"]]) z3 (.cons z1 (.cons z2 .nil))) .nil)), fe.shaped (by decide), fe.shaped (by decide), ?_⟩
      rw [eqv_fine fe]
      exact k _
end
end K02

set_option maxHeartbeats 4000000
namespace K02
open PySem PySem.Spec PyProof.Rows L2 G1
/-! ### what the head's run tells of the classes, as truth values -/
def exB (K : PySem.W.Frag) (C : Addr) : Bool :=
  He.eqO (PySem.W.findIn K (.ref C) "__getattribute__") (some (some (.builtin "BaseException.__getattribute__"))) && (He.eqO (PySem.W.findIn K (.ref C) "__getattr__") (some none) &&
  (decide (PySem.W.subIn K (.ref C) (.type "BaseException") = some true) && (PySem.W.hasDictIn K C && (He.eqO (PySem.W.findIn K (.ref C) "__class__") (some (some (.builtin "object.__class__"))) &&
  (He.eqO (PySem.W.specialIn K (.builtin "object.__class__") "__get__") (some (some (.builtin "getset_descriptor.__get__"))) && (decide (PySem.W.takesIn K (.builtin "object.__class__") = some true) &&
  decide (PySem.W.mroIn K C (.type "object") = some true)))))))
theorem exB_ok {K : PySem.W.Frag} {C : Addr} (h : exB K C = true) : ExcC K C := by
  obtain ⟨h1, h⟩ := He.ba h
  obtain ⟨h2, h⟩ := He.ba h
  obtain ⟨h3, h⟩ := He.ba h
  obtain ⟨h4, h⟩ := He.ba h
  obtain ⟨h5, h⟩ := He.ba h
  obtain ⟨h6, h⟩ := He.ba h
  obtain ⟨h7, h8⟩ := He.ba h
  exact ⟨He.eqO_ok h1, He.eqO_ok h2, of_decide_eq_true h3, h4, He.eqO_ok h5, He.eqO_ok h6, of_decide_eq_true h7, of_decide_eq_true h8⟩
def clsB (K : PySem.W.Frag) (C : Addr) : Bool := match K.lookup C with
  | some ⟨.type c, _, .cls cd, sl⟩ => (match cd.mro, sl.toList with
    | .ref C' :: bm, [_, _, _, _, some (.builtin n), _] => decide (c = "type") && (decide (C' = C) && (decide (n = "ValueError.__new__") && (!cd.hasDel && (cd.hasDict && PySem.HandSPX.refsVE bm))))
    | _, _ => false)
  | _ => false
theorem clsB_ok {K : PySem.W.Frag} {C : Addr} (h : clsB K C = true) : ∃ nm q N bs bm sn sub ab col dd k0 k1 k2 k3 k5, K.lookup C = some (excClassObj nm q C N bs bm true sn sub ab col dd k0 k1 k2 k3 k5 "ValueError.__new__") ∧ PySem.HandSPX.refsVE bm = true := by
  unfold clsB at h
  split at h
  · rename_i c dd cd sl ho
    split at h
    · rename_i C' bm k0 k1 k2 k3 n k5 hm hs
      obtain ⟨h1, h⟩ := He.ba h
      obtain ⟨h2, h⟩ := He.ba h
      obtain ⟨h3, h⟩ := He.ba h
      obtain ⟨h4, h⟩ := He.ba h
      obtain ⟨h5, h6⟩ := He.ba h
      have e1 := of_decide_eq_true h1
      have e2 := of_decide_eq_true h2
      have e3 := of_decide_eq_true h3
      subst e1 e2 e3
      obtain ⟨nm0, bs, mro, ns, qn, hd, sn, sub, ab, col, del⟩ := cd
      dsimp only at hm h4 h5
      subst hm h5
      have e4 : del = false := by simpa using h4
      subst e4
      have es : sl = #[k0, k1, k2, k3, some (.builtin "ValueError.__new__"), k5] := by
        obtain ⟨l⟩ := sl
        simp only at hs
        rw [hs]
      subst es
      exact ⟨nm0, qn, ns, bs, bm, sn, sub, ab, col, dd, k0, k1, k2, k3, k5, ho, h6⟩
    · cases h
  · cases h
def ecB (K : PySem.W.Frag) (x : Str) : Bool :=
  clsB K (ga K x) && (He.eqO (PySem.W.findIn K (.ref (ga K x)) "__setattr__") (some (some (.builtin "object.__setattr__"))) && (decide (PySem.W.typeIn K (.ref (ga K x)) = some (.type "type")) && (PySem.W.keepIn K (.ref (ga K x)) &&
  (He.eqO (PySem.W.findIn K (.ref (ga K x)) "value") (some none) && (He.eqO (PySem.W.findIn K (.ref (ga K x)) "__init__") (some (some (.ref (He.ma K (ga K x) "__init__")))) && decide (PySem.W.typeIn K (.ref (He.ma K (ga K x) "__init__")) = some (.type "function")))))))
theorem ecB_ok {K : PySem.W.Frag} {x : Str} (h : ecB K x = true) (e : ExcC K (ga K x)) : EC K (ga K x) (He.ma K (ga K x) "__init__") := by
  obtain ⟨h1, h⟩ := He.ba h
  obtain ⟨h2, h⟩ := He.ba h
  obtain ⟨h3, h⟩ := He.ba h
  obtain ⟨h4, h⟩ := He.ba h
  obtain ⟨h5, h⟩ := He.ba h
  obtain ⟨h6, h7⟩ := He.ba h
  exact ⟨⟨clsB_ok h1, He.eqO_ok h2, e.hs, of_decide_eq_true h3, h4⟩, e, He.eqO_ok h5, He.eqO_ok h6, of_decide_eq_true h7⟩
/-! ### Panel -/
def four : List String := ["NoneType", "int", "list", "tuple"]
def panB (K : PySem.W.Frag) : Bool :=
  (He.Fa.cls "Panel").ok K && ((He.Fa.noat "Panel" "_entries").ok K && ((He.Fa.noat "Panel" "_rows").ok K && ((He.Fa.meth "Panel" "entries").ok K && ((He.Fa.meth "Panel" "rows").ok K && ((He.Fa.meth "Panel" "__len__").ok K && ((He.Fa.meth "Panel" "__eq__").ok K && ((He.Fa.mkr "Panel").ok K &&
  (He.eqO (PySem.W.findIn K (.ref (ga K "Panel")) "__class__") (some (some (.builtin "object.__class__"))) && (He.eqO (PySem.W.specialIn K (.builtin "object.__class__") "__get__") (some (some (.builtin "getset_descriptor.__get__"))) &&
  (decide (PySem.W.takesIn K (.builtin "object.__class__") = some true) && (decide (PySem.W.mroIn K (ga K "Panel") (.type "object") = some true) && (decide (PySem.W.kitOne K (.ref (ga K "Panel")) (.ref (ga K "Panel")) = some true) &&
  ((four.all fun T => decide (PySem.W.kitOne K (.type T) (.ref (ga K "Panel")) = some false)) && (He.eqO (PySem.W.findIn K (.ref (ga K "Panel")) "__ne__") (some (some (.builtin "object.__ne__"))) && (decide (PySem.W.subIn K (.ref (ga K "Panel")) (.type "object") = some true) &&
  (PySem.W.notFirst K (ga K "Panel") (.ref (ga K "Panel")) && four.all fun T => PySem.W.notFirst K (ga K "Panel") (.type T)))))))))))))))))
theorem four_of {T : String} (h : T = "NoneType" ∨ T = "int" ∨ T = "list" ∨ T = "tuple") : T ∈ four := by
  unfold four
  rcases h with rfl | rfl | rfl | rfl <;> simp
structure PanF (K : PySem.W.Frag) : Prop where
  y : PanY K (ga K "Panel") (He.ma K (ga K "Panel") "__eq__")
  en : Meth K (ga K "Panel") "entries" (He.ma K (ga K "Panel") "entries")
  rw : Meth K (ga K "Panel") "rows" (He.ma K (ga K "Panel") "rows")
  ln : Meth K (ga K "Panel") "__len__" (He.ma K (ga K "Panel") "__len__")
  mkr : Mk K (ga K "Panel") (He.ma K (ga K "Panel") "__init__")
theorem panB_ok {K : PySem.W.Frag} (h : panB K = true) : PanF K := by
  obtain ⟨h1, h⟩ := He.ba h
  obtain ⟨h2, h⟩ := He.ba h
  obtain ⟨h3, h⟩ := He.ba h
  obtain ⟨h4, h⟩ := He.ba h
  obtain ⟨h5, h⟩ := He.ba h
  obtain ⟨h6, h⟩ := He.ba h
  obtain ⟨h7, h⟩ := He.ba h
  obtain ⟨h8, h⟩ := He.ba h
  obtain ⟨h9, h⟩ := He.ba h
  obtain ⟨h10, h⟩ := He.ba h
  obtain ⟨h11, h⟩ := He.ba h
  obtain ⟨h12, h⟩ := He.ba h
  obtain ⟨h13, h⟩ := He.ba h
  obtain ⟨h14, h⟩ := He.ba h
  obtain ⟨h15, h⟩ := He.ba h
  obtain ⟨h16, h⟩ := He.ba h
  obtain ⟨h17, h18⟩ := He.ba h
  have mq := He.meth_ok h7
  have pc : PanC K (ga K "Panel") := ⟨He.cls_ok h1, He.noat_ok h2, He.noat_ok h3⟩
  have px : PanX K (ga K "Panel") := { toPanC := pc, cc := He.eqO_ok h9, sg := He.eqO_ok h10, tk := of_decide_eq_true h11, mo := of_decide_eq_true h12, me := of_decide_eq_true h13, no := fun T hT => of_decide_eq_true (List.all_eq_true.mp h14 T (four_of hT)) }
  exact ⟨{ toPanX := px, eq := mq.at_, fn := mq.fn, ne := He.eqO_ok h15, ob := of_decide_eq_true h16, nm := h17, nt := fun T hT => List.all_eq_true.mp h18 T (four_of hT) }, He.meth_ok h4, He.meth_ok h5, He.meth_ok h6, He.mkr_ok h8⟩
/-! ### all -/
def errs : List Str := ["InvalidEntries", "InvalidRows"]
def frees : List Str := ["sum", "max", "min", "len", "range", "repr", "dict", "list", "tuple", "set", "sorted", "all", "isinstance", "str"]
def progNs : List Str := ["is_name", "are_unlike_names", "is_row", "are_rows", "check_entries", "check_rows"]
def lawNs : List Str := ["_law_purse", "_law_mixed", "_law_draw", "_law_purses", "_law_shuffled", "_law_word", "_law_names", "_law_rows_of", "_law_caught", "_law_odd_names", "_law_strange", "_law_odd_rows", "_law_refused_right", "_law_very", "_law_unlike_right", "_law_right", "law"]
def globs : List Str := errs ++ ((["Panel"] : List Str) ++ (progNs ++ lawNs))
def allB (K : PySem.W.Frag) : Bool :=
  (frees.all fun x => (He.Fa.free x).ok K) && ((He.Fa.int "LONGEST_NAME" 8).ok K && ((globs.all fun x => (He.Fa.glo x).ok K) && ((errs.all fun x => exB K (ga K x)) && ((errs.all fun x => ecB K x) && ((errs.all fun x => xfB K (ga K x)) &&
  ((He.Fa.exm "InvalidEntries" "InvalidEntries" true).ok K && ((He.Fa.exm "InvalidRows" "InvalidEntries" false).ok K && ((He.Fa.exm "InvalidRows" "InvalidRows" true).ok K && panB K))))))))
/-! ### the defs -/
def initS (i : Nat) : Stmt := match top i with
  | .ClassDef _ _ _ body .. => body.getD 0 (.Pass ⟨0, 0, 0, 0⟩)
  | s => s
def dInit (i : Nat) (x : Str) : He.DefD := ⟨(x, some "__init__"), "__init__", x ++ ".__init__", defArgs (initS i), defBody (initS i), defScope (initS i), [.non], []⟩
def dDef (i : Nat) (x : Str) : He.DefD := ⟨(x, none), x, x, defArgs (top i), defBody (top i), defScope (top i), [], []⟩
def methNs : List Str := ["__init__", "entries", "rows", "__len__", "__eq__"]
def dMeth (j : Nat) (m : Str) : He.DefD := ⟨("Panel", some m), m, "Panel." ++ m, defArgs (methS j), defBody (methS j), defScope (methS j), [], []⟩
def fns : List He.DefD := ((List.range 2).map fun i => dInit (i + 3) (errs.getD i "")) ++ (((List.range 5).map fun i => dMeth i (methNs.getD i "")) ++ (((List.range 6).map fun i => dDef (i + 7) (progNs.getD i "")) ++ ((List.range 17).map fun i => dDef (i + 16) (lawNs.getD i ""))))
end K02

set_option maxHeartbeats 0
namespace K02
open PySem PySem.Spec PyProof.Rows L2 G1
abbrev AlM : Type := Bool × List He.FnW
def obsM (K : PySem.W.Frag) : AlM := (allB K && fns.all fun d => d.ok K, fns.map fun d => He.fnW K d.at_)
def valM : AlM := (true, fns.map He.DefD.val)
def obsG (g : Addr → Option Obj) : AlM := obsM (He.frG g (He.asD g 5))
def hk : PySem.W.Hook where
  α := AlM
  obs := fun s => obsG s.heap.get?
  val := fun _ => valM
  says := fun _ h => ∃ K : PySem.W.Frag, K.In h ∧ obsM K = valM
  of := fun _ _ e => ⟨_, He.frG_in, e⟩
  keeps := fun _ _ _ ⟨K, hK, c⟩ k => ⟨K, PySem.W.Frag.In.keeps hK k, c⟩
def ob (s : PySem.W.SharedT) : AlM := obsG (HandSHeadRun.getT s)
theorem ob_eq (s : PySem.W.SharedT) : ob s = hk.obs s.abs := by
  have e : HandSHeadRun.getT s = s.abs.heap.get? := funext (HandSHeadRun.getT_eq s)
  unfold ob
  rw [e]
  rfl
abbrev R : PySem.W.OpenRow := PySem.W.OpenLaw.row PySem.Challenge.rw_cardpanel_k02_panels_made
def others : List Str := ((["_wall", "ShowError", "LONGEST_NAME", "Panel"] : List Str) ++ (errs ++ (progNs ++ (["_law_purse", "_law_mixed", "_law_draw", "_law_purses", "_law_shuffled", "_law_word", "_law_names", "_law_rows_of", "_law_caught", "_law_odd_names", "_law_strange", "_law_odd_rows", "_law_refused_right", "_law_very", "_law_unlike_right", "_law_right"] : List Str))) : List Str)
theorem run (w : World) : HandSHeadRun.RunEq R (PySem.W.view R.prog [32]) hk ob 20000 others w := by
  intro os
  kernel_rfl
end K02

set_option maxHeartbeats 8000000
namespace K02
open PySem PySem.Spec PyProof.Rows L2 G1
theorem all_of {α : Type} {p : α → Bool} {l : List α} (h : l.all p = true) {x : α} (hx : x ∈ l) : p x = true := List.all_eq_true.mp h x hx
theorem fun_of {K : PySem.W.Frag} (c : obsM K = valM) {d : He.DefD} (h : d ∈ fns) : ∃ fd, FunD K d.name d.qual d.params d.body d.scope (d.dvs K) (d.kws K) (He.fAd K d.at_) fd := by
  have c1 : (allB K && fns.all fun d => d.ok K) = true := congrArg (fun z : AlM => z.1) c
  have c2 : fns.map (fun d => He.fnW K d.at_) = fns.map He.DefD.val := congrArg (fun z : AlM => z.2) c
  obtain ⟨i, hi, e⟩ := List.mem_iff_getElem.mp h
  have e2 : (fns.map fun d => He.fnW K d.at_)[i]? = (fns.map He.DefD.val)[i]? := by rw [c2]
  rw [List.getElem?_map, List.getElem?_map, List.getElem?_eq_getElem hi, e] at e2
  exact He.DefD.funD (Option.some.inj e2) (all_of (He.ba c1).2 h)
theorem init_in (j : Fin 2) : dInit (j.1 + 3) (errs.getD j.1 "") ∈ fns := List.mem_append_left _ (List.mem_map.mpr ⟨j.1, List.mem_range.mpr j.2, rfl⟩)
theorem meth_in (j : Fin 5) : dMeth j.1 (methNs.getD j.1 "") ∈ fns := List.mem_append_right _ (List.mem_append_left _ (List.mem_map.mpr ⟨j.1, List.mem_range.mpr j.2, rfl⟩))
theorem prog_in (j : Fin 6) : dDef (j.1 + 7) (progNs.getD j.1 "") ∈ fns := List.mem_append_right _ (List.mem_append_right _ (List.mem_append_left _ (List.mem_map.mpr ⟨j.1, List.mem_range.mpr j.2, rfl⟩)))
theorem law_in (j : Fin 17) : dDef (j.1 + 16) (lawNs.getD j.1 "") ∈ fns := List.mem_append_right _ (List.mem_append_right _ (List.mem_append_right _ (List.mem_map.mpr ⟨j.1, List.mem_range.mpr j.2, rfl⟩)))
theorem err_ix {x : Str} (h : x ∈ errs) : ∃ j : Fin 2, errs.getD j.1 "" = x := by
  obtain ⟨i, hi, e⟩ := List.mem_iff_getElem.mp h
  exact ⟨⟨i, hi⟩, by rw [List.getD_eq_getElem?_getD, List.getElem?_eq_getElem hi, e]; rfl⟩
theorem init_sc : ∀ j : Fin 2, FnScope iPs iPs (defScope (initS (j.1 + 3))) := by
  intro j
  have h : ∀ j : Fin 2, (defScope (initS (j.1 + 3))) = (defScope (initS 3)) := by decide +kernel
  rw [h j]
  exact ⟨rfl, rfl, rfl, by decide +kernel, rfl, by decide +kernel, by decide +kernel⟩
def iAr (p1 p2 : Pos) (e : Expr) : Arguments := { posonlyargs := [], args := [{ arg := "self", annotation := none, pos := p1 }, { arg := "value", annotation := none, pos := p2 }], vararg := none, kwonlyargs := [], kw_defaults := [], kwarg := none, defaults := [e] }
section
variable {ql : Str} {p1 p2 : Pos} {e : Expr} {bd : List Stmt} {sc : Scope}
theorem bind2 (T : Addr) (kV doc pm : Value) (an : Option Addr) (cdv ct : Value) (us its : List Value) (h1 : us.length = 2) (h2 : its.length = 1) :
    ∃ k, bindArgs (PySem.W.fnOf "__init__" ql (iAr p1 p2 e) bd sc (.ref T) kV doc pm an cdv ct) ⟨us, []⟩ = seqItems? (.ref T) >>= k ∧ k (some its.toArray) = pure (iPs.zip (us ++ its.drop 1)) :=
  match us, its, h1, h2 with | [_, _], [_], _, _ => ⟨_, rfl, rfl⟩
end
/-- what is read off the text of one such __init__ -/
def shapeB (a : Arguments) (b : List Stmt) : Bool := match a, b with
  | ⟨[], [⟨s1, none, _⟩, ⟨s2, none, _⟩], none, [], [], none, [_]⟩, [.Assign [.Attribute (.Name s3 _) s4 _] (.Name s5 _) _] => decide (s1 = "self") && (decide (s2 = "value") && (decide (s3 = "self") && (decide (s4 = "value") && decide (s5 = "value"))))
  | _, _ => false
theorem shapeB_ok {a : Arguments} {b : List Stmt} (h : shapeB a b = true) : (∃ p1 p2 e, a = iAr p1 p2 e) ∧ ∃ p1 p2 p3 p4, b = [.Assign [.Attribute (.Name "self" p1) "value" p2] (.Name "value" p3) p4] := by
  unfold shapeB at h
  split at h
  · obtain ⟨h1, h⟩ := He.ba h
    obtain ⟨h2, h⟩ := He.ba h
    obtain ⟨h3, h⟩ := He.ba h
    obtain ⟨h4, h5⟩ := He.ba h
    rw [of_decide_eq_true h1, of_decide_eq_true h2, of_decide_eq_true h3, of_decide_eq_true h4, of_decide_eq_true h5]
    exact ⟨⟨_, _, _, rfl⟩, _, _, _, _, rfl⟩
  · cases h
theorem shapes : ∀ j : Fin 2, shapeB (defArgs (initS (j.1 + 3))) (defBody (initS (j.1 + 3))) = true := by decide +kernel
section
variable {P : Program} {w : World} {K : PySem.W.Frag} {mg : Str → Option Value} {base : Heap}
theorem errC_of {x : Str} (c : obsM K = valM) (hx : x ∈ errs) (E : EC K (ga K x) (He.ma K (ga K x) "__init__")) (gl : mg x = some (.ref (ga K x))) : ErrC P w K mg base x := by
  obtain ⟨j, hj⟩ := err_ix hx
  obtain ⟨fd, F⟩ := fun_of c (init_in j)
  rw [hj] at F
  have F' : FunD K "__init__" (x ++ ".__init__") (defArgs (initS (j.1 + 3))) (defBody (initS (j.1 + 3))) (defScope (initS (j.1 + 3))) [.non] [] (He.ma K (ga K x) "__init__") fd := F
  obtain ⟨⟨q1, q2, qe, ea⟩, p1, p2, p3, p4, e⟩ := shapeB_ok (shapes j)
  rw [ea, e] at F'
  obtain ⟨d1, v1, b1⟩ := FunD.binds1 (ps := iPs) F' 2 1 (by simp) rfl bind2
  have e1 : d1 = [] := by
    cases v1
    rfl
  subst e1
  refine ⟨⟨_, fd, E, ?_, b1⟩, gl⟩
  refine okN F' (init_sc j) (fun vs H Q Ex h => ?_) (fun cdv A outer s H vs Q Ex hr h => ?_)
  · obtain ⟨_, _, rfl, _⟩ := h
    rfl
  · obtain ⟨a, v, rfl, ha, k⟩ := h
    have sc := init_sc j
    refine ⟨tOst K "value" (tVar 0) (tVar 1), ?_, ?_⟩
    · exact pss_one (ps_ost (pe_var (x := "self") rfl (sc.par "self" (List.mem_cons_self)|>.imp id .inl) (by decide) (by decide)) (pe_var (x := "value") rfl (sc.par "value" (List.mem_cons_of_mem _ List.mem_cons_self)|>.imp id .inl) (by decide) (by decide)))
    · exact ⟨v, rfl, _, rfl, a, ga K x, rfl, E.t, E.nv, .inl ⟨ha, fun dx n ne => k dx n ne⟩⟩
end
end K02

set_option maxHeartbeats 8000000
namespace K02
open PySem PySem.Spec PyProof.Rows L2 G1
structure Facts (K : PySem.W.Frag) (mg : Str → Option Value) : Prop where
  fr : ∀ x ∈ frees, mg x = none
  long : ∃ t, mg "LONGEST_NAME" = some (.int 8 t)
  gl : ∀ x ∈ globs, mg x = some (.ref (ga K x))
  ec : ∀ x ∈ errs, EC K (ga K x) (He.ma K (ga K x) "__init__")
  xf : ∀ x ∈ errs, XfC K (ga K x)
  ee : PySem.W.exmOne K (.ref (ga K "InvalidEntries")) (.ref (ga K "InvalidEntries")) = some true
  re : PySem.W.exmOne K (.ref (ga K "InvalidRows")) (.ref (ga K "InvalidEntries")) = some false
  rr : PySem.W.exmOne K (.ref (ga K "InvalidRows")) (.ref (ga K "InvalidRows")) = some true
  pan : PanF K
theorem facts_of {K : PySem.W.Frag} {h : Heap} {mg : Str → Option Value} (X : K.In h) (G : h.Ns mainGlobals mg) (c : obsM K = valM) : Facts K mg := by
  have c1 : (allB K && fns.all fun d => d.ok K) = true := congrArg (fun z : AlM => z.1) c
  obtain ⟨h1, q⟩ := He.ba (He.ba c1).1
  obtain ⟨h2, q⟩ := He.ba q
  obtain ⟨h3, q⟩ := He.ba q
  obtain ⟨h4, q⟩ := He.ba q
  obtain ⟨h5, q⟩ := He.ba q
  obtain ⟨h6, q⟩ := He.ba q
  obtain ⟨h7, q⟩ := He.ba q
  obtain ⟨h8, q⟩ := He.ba q
  obtain ⟨h9, h10⟩ := He.ba q
  exact ⟨fun x hx => He.free_ok X G (all_of h1 hx), He.int_ok X G h2, fun x hx => He.glo_ok X G (all_of h3 hx), fun x hx => ecB_ok (all_of h5 hx) (exB_ok (all_of h4 hx)), fun x hx => xfB_ok (all_of h6 hx), He.exm_ok h7, He.exm_ok h8, He.exm_ok h9, panB_ok h10⟩
theorem law_of {P : Program} {w : World} {K : PySem.W.Frag} {h : Heap} {mg : Str → Option Value} {f : Addr} (X : K.In h) (G : h.Ns mainGlobals mg) (hfa : mg ("law" : Str) = some (.ref f)) (c : obsM K = valM) :
    ∃ fd : FuncData, (∀ (s : Shared) (v : Value), BindsTo s fd ⟨[v], []⟩ [("_law_script", v)]) ∧ ∀ base : Heap, K.In base → base.Ns mainGlobals mg → FnG P w K mg base 9 f fd ["_law_script"] (spLaw K) := by
  have T := facts_of X G c
  have fr := T.fr
  have gl := T.gl
  obtain ⟨m0, M0⟩ := fun_of c (meth_in 0)
  obtain ⟨m1, M1⟩ := fun_of c (meth_in 1)
  obtain ⟨m2, M2⟩ := fun_of c (meth_in 2)
  obtain ⟨m3, M3⟩ := fun_of c (meth_in 3)
  obtain ⟨m4, M4⟩ := fun_of c (meth_in 4)
  obtain ⟨p0, P0⟩ := fun_of c (prog_in 0)
  obtain ⟨p1, P1⟩ := fun_of c (prog_in 1)
  obtain ⟨p2, P2⟩ := fun_of c (prog_in 2)
  obtain ⟨p3, P3⟩ := fun_of c (prog_in 3)
  obtain ⟨p4, P4⟩ := fun_of c (prog_in 4)
  obtain ⟨p5, P5⟩ := fun_of c (prog_in 5)
  obtain ⟨d0, D0⟩ := fun_of c (law_in 0)
  obtain ⟨d1, D1⟩ := fun_of c (law_in 1)
  obtain ⟨d2, D2⟩ := fun_of c (law_in 2)
  obtain ⟨d3, D3⟩ := fun_of c (law_in 3)
  obtain ⟨d4, D4⟩ := fun_of c (law_in 4)
  obtain ⟨d5, D5⟩ := fun_of c (law_in 5)
  obtain ⟨d6, D6⟩ := fun_of c (law_in 6)
  obtain ⟨d7, D7⟩ := fun_of c (law_in 7)
  obtain ⟨d8, D8⟩ := fun_of c (law_in 8)
  obtain ⟨d9, D9⟩ := fun_of c (law_in 9)
  obtain ⟨d10, D10⟩ := fun_of c (law_in 10)
  obtain ⟨d11, D11⟩ := fun_of c (law_in 11)
  obtain ⟨d12, D12⟩ := fun_of c (law_in 12)
  obtain ⟨d13, D13⟩ := fun_of c (law_in 13)
  obtain ⟨d14, D14⟩ := fun_of c (law_in 14)
  obtain ⟨d15, D15⟩ := fun_of c (law_in 15)
  obtain ⟨d16, D16⟩ := fun_of c (law_in 16)
  have e := hfa.symm.trans (gl "law" (by decide))
  cases e
  have I0 : FnM K "__init__" "Panel.__init__" sInit (He.ma K (ga K "Panel") "__init__") m0 := M0
  have I1 : FnM K "entries" "Panel.entries" sEnt (He.ma K (ga K "Panel") "entries") m1 := M1
  have I2 : FnM K "rows" "Panel.rows" sRws (He.ma K (ga K "Panel") "rows") m2 := M2
  have I3 : FnM K "__len__" "Panel.__len__" sLen (He.ma K (ga K "Panel") "__len__") m3 := M3
  have I4 : FnM K "__eq__" "Panel.__eq__" sEq (He.ma K (ga K "Panel") "__eq__") m4 := M4
  have J0 : FnP K "is_name" sIsName (ga K "is_name") p0 := P0
  have J1 : FnP K "are_unlike_names" sUnlike (ga K "are_unlike_names") p1 := P1
  have J2 : FnP K "is_row" sIsRow (ga K "is_row") p2 := P2
  have J3 : FnP K "are_rows" sAreR (ga K "are_rows") p3 := P3
  have J4 : FnP K "check_entries" sChkE (ga K "check_entries") p4 := P4
  have J5 : FnP K "check_rows" sChkR (ga K "check_rows") p5 := P5
  have H0 : FnP K "_law_purse" sPurse (ga K "_law_purse") d0 := D0
  have H1 : FnP K "_law_mixed" sMixed (ga K "_law_mixed") d1 := D1
  have H2 : FnP K "_law_draw" sDraw (ga K "_law_draw") d2 := D2
  have H3 : FnP K "_law_purses" sPurses (ga K "_law_purses") d3 := D3
  have H4 : FnP K "_law_shuffled" sShuf (ga K "_law_shuffled") d4 := D4
  have H5 : FnP K "_law_word" sWord (ga K "_law_word") d5 := D5
  have H6 : FnP K "_law_names" sNames (ga K "_law_names") d6 := D6
  have H7 : FnP K "_law_rows_of" sRows (ga K "_law_rows_of") d7 := D7
  have H8 : FnP K "_law_caught" sCaught (ga K "_law_caught") d8 := D8
  have H9 : FnP K "_law_odd_names" sOddN (ga K "_law_odd_names") d9 := D9
  have H10 : FnP K "_law_strange" sStrange (ga K "_law_strange") d10 := D10
  have H11 : FnP K "_law_odd_rows" sOddR (ga K "_law_odd_rows") d11 := D11
  have H12 : FnP K "_law_refused_right" sRef (ga K "_law_refused_right") d12 := D12
  have H13 : FnP K "_law_very" sVery (ga K "_law_very") d13 := D13
  have H14 : FnP K "_law_unlike_right" sUnl (ga K "_law_unlike_right") d14 := D14
  have H15 : FnP K "_law_right" sRight (ga K "_law_right") d15 := D15
  have H16 : FnP K "law" sLaw (ga K "law") d16 := D16
  have b := FunD.bindsA (ps := ["_law_script"]) H16 fun _ _ _ _ _ _ us hl => match us, hl with | [_], _ => rfl
  refine ⟨d16, fun s v => b s [v] rfl, fun base _ _ => ?_⟩
  have L : Lib K mg := ⟨fr _ (by decide), fr _ (by decide), fr _ (by decide), fr _ (by decide), fr _ (by decide)⟩
  have LP : LibP mg := ⟨fr _ (by decide), fr _ (by decide), fr _ (by decide), fr _ (by decide), fr _ (by decide), fr _ (by decide), T.long⟩
  have gP : mg "Panel" = some (.ref (ga K "Panel")) := gl _ (by decide)
  have EE : ErrC P w K mg base "InvalidEntries" := errC_of c (by decide) (T.ec _ (by decide)) (gl _ (by decide))
  have ER : ErrC P w K mg base "InvalidRows" := errC_of c (by decide) (T.ec _ (by decide)) (gl _ (by decide))
  have PC : PanC K (ga K "Panel") := T.pan.y.toPanX.toPanC
  have PX : PanX K (ga K "Panel") := T.pan.y.toPanX
  have GD := ok_draw (P := P) (w := w) (base := base) H2 L H1 (gl _ (by decide))
  have GP := ok_purses (P := P) (w := w) (base := base) H3 L H0 (gl _ (by decide))
  have GS := ok_shuf (P := P) (w := w) (base := base) H4 L H2 (gl _ (by decide)) GD
  have GW := ok_word (P := P) (w := w) (base := base) H5 L H2 (gl _ (by decide)) GD
  have GN := ok_names (P := P) (w := w) (base := base) H6 L LP.sorted H4 (gl _ (by decide)) GS H5 (gl _ (by decide)) GW
  have GR := ok_rows (P := P) (w := w) (base := base) H7 L H4 (gl _ (by decide)) GS H2 (gl _ (by decide)) GD
  have GU := ok_unlike (P := P) (w := w) (base := base) J1 L LP J0 (gl _ (by decide))
  have GI := ok_isRow (P := P) (w := w) (base := base) J2 L LP
  have GA := ok_areR (P := P) (w := w) (base := base) J3 L LP J2 (gl _ (by decide)) GI
  have GE := ok_chkE (P := P) (w := w) (base := base) J4 EE J1 (gl _ (by decide)) GU
  have GK := ok_chkR (P := P) (w := w) (base := base) J5 ER J3 (gl _ (by decide)) GA
  have GIn := ok_init (P := P) (w := w) (base := base) I0 L LP PC J4 (gl _ (by decide)) GE J5 (gl _ (by decide)) GK
  have GEn := ok_ent (P := P) (w := w) (base := base) I1 LP PC
  have GRw := ok_rws (P := P) (w := w) (base := base) I2 LP PC
  have GLn := ok_len (P := P) (w := w) (base := base) I3 L PC
  have GEq := ok_eq (P := P) (w := w) (base := base) I4 LP PX gP
  have CC : CatC K mg := ⟨T.xf _ (by decide), T.xf _ (by decide), (T.ec "InvalidEntries" (by decide)).nv, (T.ec "InvalidRows" (by decide)).nv, gl _ (by decide), gl _ (by decide), T.ee, T.re, T.rr⟩
  have GC := ok_caught (P := P) (w := w) (base := base) H8 CC T.pan.mkr gP I0 GIn
  have GON := ok_oddN (P := P) (w := w) (base := base) H9 (fr _ (by decide)) (fr _ (by decide))
  have GSt := ok_strange (P := P) (w := w) (base := base) (mg := mg) H10
  have GOR := ok_oddR (P := P) (w := w) (base := base) H11 LP (fr _ (by decide)) (fr _ (by decide)) H10 (gl _ (by decide)) GSt
  have GV := ok_very (P := P) (w := w) (base := base) (mg := mg) H13
  have GX := ok_ref (P := P) (w := w) (base := base) H12 LP (fr _ (by decide)) (fr _ (by decide)) H9 (gl _ (by decide)) GON H11 (gl _ (by decide)) GOR H8 (gl _ (by decide)) GC H13 (gl _ (by decide)) GV
  have GUn := ok_unl (P := P) (w := w) (base := base) H14 L T.pan.y T.pan.mkr gP I0 GIn I4 GEq
  have GRt := ok_right (P := P) (w := w) (base := base) H15 L LP (fr _ (by decide)) T.pan.y T.pan.mkr gP I0 GIn I4 GEq T.pan.en I1 GEn T.pan.rw I2 GRw T.pan.ln.at_ T.pan.ln.fn I3 GLn H2 (gl _ (by decide)) GD H6 (gl _ (by decide)) GN H7 (gl _ (by decide)) GR H4 (gl _ (by decide)) GS
    H14 (gl _ (by decide)) GUn H12 (gl _ (by decide)) GX
  exact ok_law H16 L T.pan.y T.pan.mkr gP I0 GIn I4 GEq T.pan.en I1 GEn T.pan.rw I2 GRw T.pan.ln.at_ T.pan.ln.fn I3 GLn H3 (gl _ (by decide)) GP H15 (gl _ (by decide)) GRt H8 (gl _ (by decide)) GC
end K02

set_option maxHeartbeats 0
open PySem PySem.W PySem.Calls PyProof.Rows
theorem PySem.Challenge.cw_cardpanel_k02_panels_made_holds : PySem.Challenge.rw_cardpanel_k02_panels_made.Holds := by
  w_on; o_law
  refine HandSHeadRun.head_any (r := K02.R) (q := view K02.R.prog [32]) (H := K02.hk) (ob := K02.ob) (M := 20000) (loose := K02.others) (d := HandSHeadRun.topDef K02.R.prog 32) (kwd := []) K02.ob_eq
    (by kernel_rfl) (fun s => by kernel_rfl) K02.run (by kernel_rfl) (by kernel_rfl) (by kernel_rfl) (by rfl) (by first | assumption | decide +kernel) (by decide +kernel) ⟨rfl, rfl, rfl, rfl, rfl, by decide +kernel⟩ ?hw ?hc
  case hw => w_witness2
  case hc =>
    refine G1.walk_ofG (l := PySem.Challenge.rw_cardpanel_k02_panels_made) (n := 63) (k := 9) (x := "_law_script") rfl (by decide) (by kernel_rfl) ⟨rfl, by decide, by decide⟩ ?F
    intro w mg fa h Y G hmg0
    obtain ⟨K, KX, c⟩ := Y
    have hmg : mg ("law" : PySem.Str) = some (.ref fa) := by
      have e : (HandSHeadRun.topDef K02.R.prog 32).name = ("law" : PySem.Str) := by kernel_rfl
      rw [← e]
      exact hmg0
    obtain ⟨fd, hb, hF⟩ := K02.law_of (P := PySem.Challenge.rw_cardpanel_k02_panels_made.prog) (w := w) KX G hmg c
    exact ⟨K, fd, K02.spLaw K, KX, hb, fun H a ns hl _ hS => ⟨a, ns, rfl, hS, fun _ => rfl⟩, hF⟩
