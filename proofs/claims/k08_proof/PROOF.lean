import PyProof.Rows.All
import Wide.All
import OpenK.AllK
import Wide.FinOn
import KE.KStateDown
import HandS.ForMost
import HandS.Exc
import HandS.ExcOwn
import HandS.ExcInit
import HandS.ExcValue
import HandS.IsInst
import HandS.ExcIs
import HandS.Wide
import HandS.WideBits
import HandS.Defaults
import HandS.Head0
import HandS.Head1
import HandS.Head2
import HandS.HeadEnd
import HandS.HeadHook1
import HandS.HeadHook2
import PySem.Challenge.RW_cardpanel_k08_panels_refused_and_by_name
import HandS.More
import HandS.Style
import HandS.Iter
import HandS.Text
import HandS.Strs
import HandS.Set
import PyProof.EqAt
import PyProof.EqKinds
import PyProof.NeKinds
import PyProof.InstNe
import OpenK.KOps
import HandS.Deep
import PyProof.Rows.SortShellAny
import HandS.Zip
import KE.KDictList
import HandS.Dict
import HandS.WordsDict
import HandS.TryMany
import HandS.MakeKwOnly
import HandS.ExcField
import HandS.MakeKw
set_option Elab.async false
set_option linter.all false
set_option maxRecDepth 100000
set_option maxHeartbeats 4000000
/-! Own rules over the hand layer: calls where no repr runs, repr of data, powers. -/
namespace G1
open PySem PySem.Spec PyProof.Rows L2
/-- no guard of a repr stands around -/
abbrev Gd (A : Around) : Prop := A.guards = some []
/-- a def's promise where no guard stands around -/
structure FnG (P : Program) (w : World) (K : PySem.W.Frag) (mg : Str → Option Value) (base : Heap) (k : Nat) (f : Addr) (fd : FuncData) (ps : List Str) (sp : Sp) : Prop where
  len : ∀ vs H Q E, sp vs H Q E → vs.length = ps.length
  run : ∀ (A : Around) (outer : List Env) (s : Shared) (H : Hp) (args : Args) (us : List Value) (vs : List V) (Q : VK) (E : XK), Gd A → Room k A → Env0 P w K mg base A outer s H →
    BindsTo s fd args (ps.zip us) → Vals vs us → sp vs H Q E → codeAny (model P w) A (.call (.ref f) args) (CR CX0 outer P w H s Q E) s
section
variable {P : Program} {w : World} {K : PySem.W.Frag} {mg : Str → Option Value} {base : Heap}
theorem FnG.body {k : Nat} {f : Addr} {nm ql : Str} {pr : Arguments} {bd : List Stmt} {sc : Scope} {dV kV doc pm cdv ct oc : Value} {an od : Option Addr}
    {osl : Array (Option Value)} {N ps : List Str} {sp : Sp} (lk : K.lookup f = some ⟨oc, od, .func (PySem.W.fnOf nm ql pr bd sc dV kV doc pm an cdv ct), osl⟩)
    (hcd : PySem.W.codeIn K cdv ql = true) (S : FnScope N ps sc) (len : ∀ vs H Q E, sp vs H Q E → vs.length = ps.length)
    (hb : ∀ (A : Around) (outer : List Env) (s : Shared) (H : Hp) (vs : List V) (Q : VK) (E : XK), Gd A → Room k (A.deeper (envOfC ql sc s.heap.objs.size f cdv)) → sp vs H Q E →
      ∃ t, PSs (cxOf CX0 P w K mg base N ql sc f cdv A outer s H E) bd t ∧ t { nx := fun _ H' => Q .non H', rt := Q } (start N vs) H) :
    FnG P w K mg base (k + 1) f (PySem.W.fnOf nm ql pr bd sc dV kV doc pm an cdv ct) ps sp := by
  refine ⟨len, fun A outer s H args us vs Q E hg hr e0 => ?_⟩
  -- the library's rule for every surroundings, asked of a promise that holds at these alone
  intro hbi r hsp
  have hl := len _ _ _ _ hsp
  have KX : K.In s.heap := e0.mod.kin.keeps fun b o e => (e0.bs b o e).1
  have hkd : ∀ y ∈ ps.zip us, sc.names.lookup y.1 = some .local ∨
      (sc.names.lookup y.1 = some .cell ∧ ((cellsFrom (s.heap.objs.size + 1) sc.names []).lookup y.1).isSome = true) := by
    rintro ⟨n, v⟩ hy
    cases S.par n (List.of_mem_zip hy).1 with
    | inl q => exact .inl q
    | inr q => exact .inr ⟨q, PySem.W.cellsFrom_some _ _ _ (.inl q)⟩
  apply codeAny_call_function hr.depth (KX _ _ lk) rfl S.co S.gen rfl (PySem.W.codeRec_of KX hcd) (hbi _ _ _ _ _)
  apply wpAny_newFunctionEnv_cells S.kind hkd
  rintro env rfl s1 x
  refine ⟨(e0.mod.nolimit.keeps fun b o e => (e0.bs b o e).1).keeps x.toInCall.keep, codeAny_func ?_⟩
  obtain ⟨t, ht, hq⟩ := hb A outer s H vs Q E hg (hr.deeper _) hsp
  have run := ht.run [] s1 (start N vs) H _ (inv_start S hr.hd e0 hl r x) hq
  refine wpAny_mono run ?_ (fun _ _ h => h)
  rintro (_ | _ | _ | u) s' hs
  · obtain ⟨σ', H', J, q⟩ := hs
    exact ⟨.non, H', J.os, J.bare, J.base, J.hok, rfl, q⟩
  · obtain ⟨_, _, _, q⟩ := hs
    exact q.elim
  · obtain ⟨_, _, _, q⟩ := hs
    exact q.elim
  · obtain ⟨v, σ', H', J, rv, q⟩ := hs
    exact ⟨v, H', J.os, J.bare, J.base, J.hok, rv, q⟩
end
end G1

set_option maxHeartbeats 4000000
namespace G1
open PySem PySem.Spec PyProof.Rows L2
section
variable {X : Cx} {k : Nat} {f : Addr} {fd : FuncData} {ps : List Str} {sp : Sp} {dvs : List V} {ds : List Value} {x : Str} {p pos : Pos} {e : Expr} {es : List Expr} {t : TA}
theorem go_fn {pins : List (Addr × Obj)} {σ : L2.St} {H : Hp} {s : Shared} {Q : VK} {us : List Value} {vs : List V} (F : FnG X.prog X.w X.K X.mg X.base k f fd ps sp) (hg : Gd X.A) (hr : Room k X.A)
    (hb : Binds X.K fd ps ds) (hd : Vals dvs ds) (I : Inv X pins σ H s) (r : Vals vs us) (h : sp (vs ++ dvs) H Q E0) :
    wpAny (model X.prog X.w) X.A (call (.ref f) us) (EP X pins σ Q) X.xe s := by
  have r2 : Vals (vs ++ dvs) (us ++ ds) := r.append hd
  have hl : (us ++ ds).length = ps.length := r2.length.symm.trans (F.len _ _ _ _ h)
  apply wpAny_call
  refine codeAny_mono (F.run X.A X.stack s H ⟨us, []⟩ (us ++ ds) (vs ++ dvs) Q E0 hg hr I.env0 (hb s us I.kIn hl) r2 h) ?_
  rintro (er | (_ | _ | _ | u)) s' hq
  · exact False.elim hq
  · exact hq.elim
  · exact hq.elim
  · exact hq.elim
  · exact I.after hq
theorem pe_callG (F : FnG X.prog X.w X.K X.mg X.base k f fd ps sp) (hgd : Gd X.A) (hr : Room k X.A) (hg : Gl X x) (hm : X.mg x = some (.ref f)) (hk : PySem.W.keepIn X.K (.ref f) = true)
    (hb : Binds X.K fd ps ds) (hd : Vals dvs ds) (ha : PA X (e :: es) t) (hdb : (x == ("__debug__" : Str)) = false := by decide)
    (he : starEach (e :: es) X.env = (false, eval e X.env) :: starEach es X.env := by rfl) (hpl : (backTo pos (starEach es X.env)).any (·.1) = false := by rfl) :
    PE X (.Call (.Name x p) (e :: es) [] pos) (tCall sp dvs E0 t) := by
  constructor
  intro pins s σ H Q I h
  apply wpAny_Call_Name_kw (ld_glob I hg hm ?_ hdb)
  exact PySem.W.callWith_K (h₀ := X.base) I.ok.mod.kin hk (thn (ha.run pos pins s σ H _ I h) fun us s1 ⟨vs, H1, I1, r, q⟩ => ⟨I1.kIn, go_fn F hgd hr hb hd I1 r q⟩) he hpl
end
/-! ### the law itself, called where no guard stands -/
theorem gd_caller : Gd callerA := rfl
section
variable {P : Program} {w : World} {K : PySem.W.Frag} {mg mb : Str → Option Value} {k : Nat} {fa a : Addr} {fd : FuncData} {x : Str} {sp : Sp} {s₁ : Shared} {vs : List Value} {ns : List Int}
/-- from an abstract heap in which nothing but the script is told -/
theorem law_at {H : Hp} (KX : K.In s₁.heap) (hns : s₁.heap.Ns mainGlobals mg) (hb : s₁.heap.Ns builtinsNs mb) (hbb : ∀ x : Str, x ≠ "__name__" → mb x = bootBuiltins x) (hlim : s₁.heap.NoLimit) (hg : s₁.gens = #[])
    (ha : s₁.heap.get? a = some { cls := .type "list", data := .seq vs.toArray }) (hr : Room k callerA)
    (F : ∀ base : Heap, K.In base → base.Ns mainGlobals mg → FnG P w K mg base k fa fd [x] sp) (hbind : ∀ (s : Shared) (u : Value), BindsTo s fd ⟨[u], []⟩ [(x, u)])
    (hO : Only H) (hS : SqL K H a (ns.map V.int)) (hok : HOk P w H s₁.heap) (hA : ∀ b, H b ≠ none → b = a) (hK : H a ≠ none → K.lookup a = none)
    (hsp : sp [.ref a] H (fun v _ => v = .bl true) fun _ _ _ => False) :
    codeAny (model P w) callerA (.call (.ref fa) ⟨[.ref a], []⟩) (fun r s' => r = .ok (.ret (.bool true)) ∧ OldK s₁.heap s'.heap ∧ s'.os = s₁.os ∧ AllBare s'.gens) s₁ := by
  have one : ∀ {b : Addr}, (∀ z, H b ≠ some z) → H b = none := fun {b} n => by
    cases q : H b with
    | none => rfl
    | some u => exact (n u q).elim
  have hid : ∀ {b : Addr} {o : Obj} {es : Array DictEntry} {ep : Nat}, s₁.heap.get? b = some o → o.data = .dict es ep → (hidT s₁.heap H).get? b = some o := by
    intro b o es ep e d
    refine hidT_get e (one fun z q => ?_)
    have eb := hA b (by rw [q]; simp)
    subst eb
    rw [ha] at e
    cases e
    exact (show Data.seq vs.toArray _ ≠ Data.dict es ep from fun z => by cases z) d
  have ns_ : ∀ {b : Addr} {m : Str → Option Value}, s₁.heap.Ns b m → (hidT s₁.heap H).Ns b m := by
    rintro b m ⟨o, es, ep, e, d, r⟩
    exact ⟨o, es, ep, hid e d, d, r⟩
  have KB : K.In (hidT s₁.heap H) := by
    intro b o e
    refine hidT_get (KX b o e) (one fun z q => ?_)
    have eb := hA b (by rw [q]; simp)
    subst eb
    rw [hK (by rw [q]; simp)] at e
    cases e
  obtain ⟨mc, l1, l2⟩ := hlim
  have M0 : Mod K mg (hidT s₁.heap H) := ⟨KB, ns_ hns, ⟨mb, ns_ hb, hbb⟩, ⟨mc, ns_ l1, l2⟩⟩
  have nofs : ∀ {b : Addr}, b ∉ frs ([] : List Env) := fun {b} z => by
    have z' : b ∈ ([] : List Addr) := z
    simp at z'
  have E1 : Env0 P w K mg (hidT s₁.heap H) callerA [] s₁ H := {
    frames := rfl
    mod := M0
    bs := fun b o e => of_hidT e
    bsz := Nat.le_of_eq (hidT_size _ _)
    funs := trivial
    frf := fun b z => (nofs z).elim
    hok := hok
    bare := .of_eq hg }
  refine codeAny_mono ((F _ KB (ns_ hns)).run callerA [] s₁ H ⟨[.ref a], []⟩ [.ref a] [.ref a] _ _ gd_caller hr E1 (hbind s₁ (.ref a)) (.cons rfl .nil) hsp) ?_
  rintro (er | (_ | _ | _ | u)) s' h
  · exact False.elim h
  · exact False.elim h
  · exact False.elim h
  · exact False.elim h
  · obtain ⟨v, H', eos, bare, un, hok', r', q⟩ := h
    have q' : v = .bl true := q
    subst q'
    have eu : u = Value.bool true := r'
    subst eu
    refine ⟨rfl, OldK.of_keep fun b o e => ?_, eos, bare⟩
    rcases hO b with z | ⟨ob, xs, z⟩
    · exact un.keep b o e z nofs (by simp)
    · obtain ⟨e2, _⟩ := hok' b _ (un.frzs b ob _ z)
      obtain ⟨e1, _⟩ := hok b _ z
      rw [e] at e1
      cases e1
      exact e2
theorem law_callG (KX : K.In s₁.heap) (hns : s₁.heap.Ns mainGlobals mg) (hb : s₁.heap.Ns builtinsNs mb) (hbb : ∀ x : Str, x ≠ "__name__" → mb x = bootBuiltins x) (hlim : s₁.heap.NoLimit) (hg : s₁.gens = #[])
    (ha : s₁.heap.get? a = some { cls := .type "list", data := .seq vs.toArray }) (hi : IntsAre vs ns) (hl : ns.length ≤ sizeLine) (hr : Room k callerA)
    (F : ∀ base : Heap, K.In base → base.Ns mainGlobals mg → FnG P w K mg base k fa fd [x] sp) (hbind : ∀ (s : Shared) (u : Value), BindsTo s fd ⟨[u], []⟩ [(x, u)])
    (hsp : ∀ H : Hp, Only H → SqL K H a (ns.map V.int) → sp [.ref a] H (fun v _ => v = .bl true) fun _ _ _ => False) :
    codeAny (model P w) callerA (.call (.ref fa) ⟨[.ref a], []⟩) (fun r s' => r = .ok (.ret (.bool true)) ∧ OldK s₁.heap s'.heap ∧ s'.os = s₁.os ∧ AllBare s'.gens) s₁ := by
  have rv := vals_ints hi
  cases hk : K.lookup a with
  | some o =>
    have e := KX a o hk
    rw [ha] at e
    cases e
    have S : SqL K (fun _ => none) a (ns.map V.int) := .inr ⟨_, vs.toArray, _, hk, rfl, rfl, rfl, by rw [List.size_toArray, hi.length]; exact hl, by simpa using rv⟩
    exact law_at KX hns hb hbb hlim hg ha hr F hbind (fun _ => .inl rfl) S (fun _ _ z => nomatch z) (fun _ z => (z rfl).elim) (fun z => (z rfl).elim) (hsp _ (fun _ => .inl rfl) S)
  | none =>
    have yes : ∀ u : HO, (fun b : Addr => if b = a then some u else none) a = some u := fun u => if_pos rfl
    have no : ∀ {u : HO} {b : Addr}, b ≠ a → (fun b : Addr => if b = a then some u else none) b = none := fun {u b} n => if_neg n
    have O : Only (fun b : Addr => if b = a then some (HO.frz { cls := .type "list", data := .seq vs.toArray } (.lst (ns.map V.int))) else none) := by
      intro b
      by_cases q : b = a
      · exact .inr ⟨_, _, if_pos q⟩
      · exact .inl (if_neg q)
    have S := hsp _ O (.inl (.inr ⟨_, yes _⟩))
    refine law_at KX hns hb hbb hlim hg ha hr F hbind O (.inl (.inr ⟨_, yes _⟩)) (fun b u z => ?_) (fun b z => ?_) (fun _ => hk) S
    · by_cases q : b = a
      · subst q
        have z' := (yes _).symm.trans z
        cases z'
        exact ⟨ha, by rw [List.length_map]; exact hl, vs, _, rv, ha⟩
      · rw [if_neg q] at z
        cases z
    · by_cases q : b = a
      · exact q
      · exact (z (no q)).elim
end
theorem walk_ofG {l : PySem.W.OpenLaw} {n k : Nat} {q : Program} {loose : List Str} {XP : (Str → Option Value) → Heap → Prop} {YP : World → Heap → Prop} {d : DefRec} {x : Str}
    (hn : l.most = some n) (hn2 : n ≤ sizeLine) (hdf : d.params.defaults = []) (hr : Room k callerA)
    (F : ∀ (w : World) (mg : Str → Option Value) (fa : Addr) (h : Heap), YP w h → h.Ns mainGlobals mg → mg d.name = some (.ref fa) →
      ∃ (K : PySem.W.Frag) (fd : FuncData) (sp : Sp), K.In h ∧ (∀ (s : Shared) (u : Value), BindsTo s fd ⟨[u], []⟩ [(x, u)]) ∧
        (∀ (H : Hp) (a : Addr) (ns : List Int), ns.length ≤ n → Only H → SqL K H a (ns.map V.int) → sp [.ref a] H (fun v _ => v = .bl true) fun _ _ _ => False) ∧
        ∀ base : Heap, K.In base → base.Ns mainGlobals mg → FnG l.prog w K mg base k fa fd [x] sp) :
    PySem.W.WalkO q loose XP YP l.row.toRowW d [] (fun f vs => PySem.call f vs) := by
  apply Att.attach_call hn hdf
  intro w s₀ s₁ mg mb fa o pm cd doc a vs ns G Y ho hd hcd hmg hobj hints hlen hg
  obtain ⟨K, fd, sp, KX, hb, hsp, hF⟩ := F w mg fa _ Y G.T.g hmg
  exact law_callG KX G.T.g G.T.b G.T.builtins G.T.nolimit hg hobj hints (Nat.le_trans hlen hn2) hr hF hb fun H hO hS => hsp H a ns hlen hO hS
end G1

set_option maxHeartbeats 4000000
/-! C(name = v), C an own exception class over ValueError with an __init__ of its own. -/
namespace G1
open PySem PySem.W PySem.Calls PyProof.Rows PySem.HandSPX
section
variable {prog : Program} {w : World} {A : Around} {E : Value → Shared → Prop} {R : Result → Shared → Prop} {h : Heap} {g : Array GenState} {d : Drawn} {t : Nat} {os : OsState}
variable {nm q : Str} {C N : Addr} {bs bm : List Value} {hdct : Bool} {sn : List Str} {sub : List Value} {ab : Bool} {col : Option Bool} {dd : Option Addr} {k0 k1 k2 k3 k5 : Option Value}
abbrev veC (nm q : Str) (C N : Addr) (bs bm : List Value) (hdct : Bool) (sn : List Str) (sub : List Value) (ab : Bool) (col : Option Bool) (dd : Option Addr) (k0 k1 k2 k3 k5 : Option Value) : Obj :=
  excClassObj nm q C N bs bm hdct sn sub ab col dd k0 k1 k2 k3 k5 "ValueError.__new__"
theorem kw_new (hb : refsVE bm = true) {v : Value} {y : Str} {Q : Unit → Shared → Prop}
    (hC : h.get? C = some (veC nm q C N bs bm hdct sn sub ab col dd k0 k1 k2 k3 k5)) (hq : Q () ⟨h, g, d, t, os⟩) :
    wpAny (model prog w) A (checkBuiltinCall "ValueError.__new__" ⟨[.ref C], [(y, v)]⟩) Q E ⟨h, g, d, t, os⟩ := by
  have F := F.excBase_ValueError
  have hc : (Value.ref C :: bm).contains (.type "ValueError") = true := by
    rw [List.contains_cons, refsVE_contains "ValueError" bm hb]
    rfl
  have star := F.noStar
  simp only [checkBuiltinCall, F.newKind, F.newSplit, F.newRow]
  repeat (first
    | refine wpAny_loadPart_at hC ?_
    | (refine wpAny_isSubtype_exc hC ?_; rw [hc])
    | refine wpAny_staticBase_exc hC ?_
    | refine wpAny_madeBy_exc hC ?_
    | simp only [bne_self_eq_false, Bool.false_eq_true, if_false]
    | wp_step)
  exact hq
theorem kw_made (hb : refsVE bm = true) {v : Value} {y : Str}
    (hC : h.get? C = some (veC nm q C N bs bm hdct sn sub ab col dd k0 k1 k2 k3 k5))
    (hq : R (.ok (.ret (.ref (h.objs.size + 1)))) ⟨(h.push (W.kdv_tup [])).push (excO C h.objs.size), g, d, t, os⟩) :
    codeAny (model prog w) A (.builtin "ValueError.__new__" ⟨[.ref C], [(y, v)]⟩) R ⟨h, g, d, t, os⟩ := by
  have F := F.excBase_ValueError
  have ends := F.ends
  have c1 : (Value.ref C :: bm).contains (.type "ValueError") = true := by
    rw [List.contains_cons, refsVE_contains "ValueError" bm hb]
    rfl
  have c2 : (Value.ref C :: bm).contains (.type "AttributeError") = false := by
    rw [List.contains_cons, refsVE_contains "AttributeError" bm hb]
    rfl
  have c3 : (Value.ref C :: bm).contains (.type "NameError") = false := by
    rw [List.contains_cons, refsVE_contains "NameError" bm hb]
    rfl
  refine codeAny_builtinAt F.entry ?_
  unfold Builtin.«BaseException.__new__»
  refine PySem.wpAt_bind ?_
  show PySem.wpAt _ _ _ (stack >>= _) _ _ _
  refine PySem.wpAt_bind (PySem.wpAt_stack fun p below => PySem.wpAt_of_wpAny ?_)
  wp_walk
  refine PySem.wpAt_of_wpAny ?_
  rw [F.owner]
  repeat (first
    | with_reducible refine wpAny_madeHere_exc F.canon hC ?_
    | with_reducible refine wpAny_loadPart_at hC ?_
    | (with_reducible refine wpAny_isSubtype_exc hC ?_; first | rw [c1] | rw [c2] | rw [c3])
    | wp_step)
  show R _ _
  rw [Heap.size_push]
  exact hq
theorem kw_chkT {v : Value} {y : Str} {Q : Unit → Shared → Prop}
    (hC : h.get? C = some (veC nm q C N bs bm hdct sn sub ab col dd k0 k1 k2 k3 k5)) (hq : Q () ⟨h, g, d, t, os⟩) :
    wpAny (model prog w) A (checkBuiltinCall "type.__call__" ⟨[.ref C], [(y, v)]⟩) Q E ⟨h, g, d, t, os⟩ := by
  have z := tc_sub
  have hT : (⟨h, g, d, t, os⟩ : Shared).TypeIs (.ref C) "type" := ⟨_, hC, rfl⟩
  simp only [checkBuiltinCall, tc_kind, tc_split]
  repeat (any_goals (first
    | assumption
    | with_reducible refine wpAny_loadPart_at hC ?_
    | with_reducible refine wpAny_onRaise ?_
    | with_reducible refine wpAny_map ?_
    | wp_step))
theorem kw_typeCall (hb : refsVE bm = true) {v : Value} {y : Str} {fI : Addr} {Q : PySem.Fin → Shared → Prop}
    (hC : h.get? C = some (veC nm q C N bs bm hdct sn sub ab col dd k0 k1 k2 k3 k5))
    (hi : W.Looks (model prog w) h (typeLookup (.ref C) "__init__") (some (.ref fI))) (hs : ∀ self, W.Looks (model prog w) h (bindSpecial (.ref fI) self) (.ref fI, [self]))
    (hq : codeAny (model prog w) A (.call (.ref fI) ⟨[.ref (h.objs.size + 1)], [(y, v)]⟩)
      (fun r s' => match r with | .ok (.ret u) => u = .none ∧ Q (.done (.ret (.ref (h.objs.size + 1)))) s' | .ok _ => False | .error e => E e s')
      ⟨(h.push (W.kdv_tup [])).push (excO C h.objs.size), g, d, t, os⟩) :
    wpAny (model prog w) A (Builtin.«type.__call__» ⟨[.ref C], [(y, v)]⟩) Q E ⟨h, g, d, t, os⟩ := by
  have F := F.excBase_ValueError
  repeat (first | with_reducible refine wpAny_loadPart_at hC ?_ | with_reducible refine wpAny_madeBy_exc hC ?_ | wp_step)
  apply codeAny_call_builtin_code (Code.quiet_builtin _ F.quiet) (kw_new hb hC ?_)
  apply kw_made hb hC
  show wpAny _ _ _ _ _ _
  have up : ∀ b o, h.get? b = some o → ((h.push (W.kdv_tup [])).push (excO C h.objs.size)).get? b = some o := fun b o e => Heap.get?_push_of_some _ (Heap.get?_push_of_some _ e)
  have at1 : ((h.push (W.kdv_tup [])).push (excO C h.objs.size)).get? (h.objs.size + 1) = some (excO C h.objs.size) := by heap_get
  have hC1 := up _ _ hC
  have own : (Value.ref C :: bm).contains (.ref C) = true := by simp
  have L1 := hi.keeps up
  have L2 := (hs (.ref (h.objs.size + 1))).keeps up
  unfold isInstance
  repeat (first | with_reducible refine wpAny_loadPart_at at1 ?_ | (with_reducible refine wpAny_isSubtype_exc hC1 ?_; rw [own]) | wp_step)
  show wpAny _ _ (typeLookup (.ref C) _) _ _ _
  refine L1.at ?_
  refine wpAny_holding (wpAny_bind (L2.at ?_))
  refine wpAny_bind (wpAny_call (codeAny_mono hq ?_))
  rintro (e | (_ | _ | _ | u)) s' z
  · exact z
  · exact z.elim
  · exact z.elim
  · exact z.elim
  · obtain ⟨rfl, z⟩ := z
    first
      | exact wpAny_pure (wpAny_pure z)
      | (wp_walk; exact z)
theorem kw_call (hb : refsVE bm = true) {v : Value} {y : Str} {fI : Addr}
    (hC : h.get? C = some (veC nm q C N bs bm hdct sn sub ab col dd k0 k1 k2 k3 k5))
    (hi : W.Looks (model prog w) h (typeLookup (.ref C) "__init__") (some (.ref fI))) (hs : ∀ self, W.Looks (model prog w) h (bindSpecial (.ref fI) self) (.ref fI, [self]))
    (hq : codeAny (model prog w) (A.under (.builtin "type.__call__" ⟨[.ref C], [(y, v)]⟩)) (.call (.ref fI) ⟨[.ref (h.objs.size + 1)], [(y, v)]⟩) (W.InitBack (h.objs.size + 1) R)
      ⟨(h.push (W.kdv_tup [])).push (excO C h.objs.size), g, d, t, os⟩) :
    codeAny (model prog w) A (.call (.ref C) ⟨[], [(y, v)]⟩) R ⟨h, g, d, t, os⟩ := by
  have z1 := tc_lookup
  have z2 := tc_bind (.ref C)
  have hTy : (⟨h, g, d, t, os⟩ : Shared).TypeIs (.ref C) "type" := ⟨_, hC, rfl⟩
  apply codeAny_of_tree
  show wpAny _ _ (callAny (.ref C) _) _ _ _
  repeat (any_goals (first | assumption | with_reducible refine wpAny_loadPart_at hC ?_ | wp_step))
  refine ⟨rfl, ?_⟩
  apply codeAny_call_builtin_at (Code.quiet_builtin _ (by decide +kernel)) entry_typeCall
  apply kw_chkT hC
  apply kw_typeCall hb hC hi hs
  refine codeAny_mono hq ?_
  rintro (e | (_ | _ | _ | u)) s' z <;> exact z
end
end G1

set_option maxHeartbeats 4000000
/-! Own exceptions as values over the layer: made, looked at, asked by isinstance. -/
namespace G1
open PySem PySem.Spec PyProof.Rows L2
/-- the heap behind C(v): the exception at a, its dict at d -/
def errH (H : Hp) (a d C : Addr) (v : V) : Hp := upd (upd (upd H a (exo a C none)) d (exd d [("value", v)])) a (exo a C (some d))
/-- an exception of the class at C that holds v -/
def ErrAt (H : Hp) (a C : Addr) (v : V) : Prop := ∃ d, H a = some (exo a C (some d)) ∧ H d = some (exd d [("value", v)])
theorem errH_at {H : Hp} {a d C : Addr} {v : V} (n : d ≠ a) : ErrAt (errH H a d C v) a C v := ⟨d, upd_same, by unfold errH; rw [upd_ne n, upd_same]⟩
theorem errH_same {H : Hp} {a d C : Addr} {v : V} (ha : H a = none) (hd : H d = none) : Same H (errH H a d C v) := fun b o e => by
  unfold errH
  rw [upd_ne (ne_of_none e ha), upd_ne (ne_of_none e hd), upd_ne (ne_of_none e ha)]
  exact e
theorem ErrAt.same {H H' : Hp} {a C : Addr} {v : V} (h : ErrAt H a C v) (s : Same H H') : ErrAt H' a C v := by
  obtain ⟨d, h1, h2⟩ := h
  exact ⟨d, s _ _ h1, s _ _ h2⟩
def spE (C : Addr) : Sp := fun vs H Q _ => ∃ (a : Addr) (v : V), vs = [.ref a, v] ∧ H a = some (exo a C none) ∧
  ∀ d, H d = none → d ≠ a → Q .non (upd (upd H d (exd d [("value", v)])) a (exo a C (some d)))
/-- what the written part says of such a class and its __init__ -/
structure EC (K : PySem.W.Frag) (C fI : Addr) : Prop where
  t : OexC K C
  x : ExcC K C
  nv : PySem.W.findIn K (.ref C) "value" = some none
  iC : PySem.W.findIn K (.ref C) "__init__" = some (some (.ref fI))
  tI : PySem.W.typeIn K (.ref fI) = some (.type "function")
section
variable {X : Cx} {pins : List (Addr × Obj)} {σ : L2.St} {H : Hp} {s : Shared} {Q : VK} {C fI : Addr} {k : Nat} {fd : FuncData} {ps : List Str} {sp : Sp} {dvs : List V} {ds : List Value} {x : Str} {p pos : Pos}
theorem new_exo (I : Inv X pins σ H s) (us : List Value) : H (s.heap.objs.size + 1) = none ∧
    Inv X pins σ (upd H (s.heap.objs.size + 1) (exo (s.heap.objs.size + 1) C none)) { s with heap := (s.heap.push (PySem.W.kdv_tup us)).push (PySem.HandSPX.excO C s.heap.objs.size) } := by
  obtain ⟨hp, g, dr, tk, os⟩ := s
  have hget : ((hp.push (PySem.W.kdv_tup us)).push (PySem.HandSPX.excO C hp.objs.size)).get? (hp.objs.size + 1) = some (PySem.HandSPX.excO C hp.objs.size) := by heap_get
  refine ⟨I.hok.fresh (Nat.le_succ _), ?_⟩
  exact I.laid (t' := tk) (a := hp.objs.size + 1) (o := exo (hp.objs.size + 1) C none) (h' := (hp.push (PySem.W.kdv_tup us)).push (PySem.HandSPX.excO C hp.objs.size))
    (fun b o e => Heap.get?_push_of_some _ (Heap.get?_push_of_some _ e)) (Nat.le_succ _) (exo_ok hget)
theorem run_mkE {us : List Value} {vs : List V} (T : OexC X.K C) (iC : PySem.W.findIn X.K (.ref C) "__init__" = some (some (.ref fI))) (tI : PySem.W.typeIn X.K (.ref fI) = some (.type "function"))
    (F1 : FnOk X.prog X.w X.K X.mg X.base CX0 k fI fd ps sp) (hr : Room (k + 1) X.A) (hb : Binds X.K fd ps ds) (hd : Vals dvs ds) (I : Inv X pins σ H s) (r : Vals vs us) (hz : vs.length ≤ 1000)
    (h : ∀ a, H a = none → sp (.ref a :: (vs ++ dvs)) (upd H a (exo a C none)) (fun v H2 => v = .non ∧ Q (.ref a) H2) E0) :
    wpAny (model X.prog X.w) X.A (call (.ref C) us) (EP X pins σ Q) X.xe s := by
  obtain ⟨nm, q, N, bs, bm, sn, sub, ab, col, dd, k0, k1, k2, k3, k5, hC, hbm⟩ := T.cls
  obtain ⟨hn, I2⟩ := new_exo (C := C) I us
  have hq := h _ hn
  have r2 : Vals (V.ref (s.heap.objs.size + 1) :: (vs ++ dvs)) (Value.ref (s.heap.objs.size + 1) :: (us ++ ds)) := .cons rfl (r.append hd)
  have hl : (Value.ref (s.heap.objs.size + 1) :: us ++ ds).length = ps.length := r2.length.symm.trans (F1.len _ _ _ _ hq)
  have hus : us.length ≤ sizeLine := by
    rw [← Paired.length r, sizeLine_eq]
    omega
  have KX := I.kIn
  obtain ⟨hp, g, dr, tk, os⟩ := s
  apply wpAny_call
  refine PySem.HandSPX.call_own F.excBase_ValueError (fun Y => PySem.HandSPX.refsVE_contains Y bm hbm) (KX _ _ hC) (PySem.W.looks_findIn KX iC) (fun self => PySem.W.bind_fn KX self tI) hus ?_
  refine codeAny_mono (F1.run _ X.stack _ _ ⟨Value.ref (hp.objs.size + 1) :: us, []⟩ (Value.ref (hp.objs.size + 1) :: (us ++ ds)) _ _ E0 (hr.make C us []) (I2.env0.make C us []) (hb _ (Value.ref (hp.objs.size + 1) :: us) I2.kIn hl) r2 hq) ?_
  rintro (er | (_ | _ | _ | u)) s' hq'
  · exact False.elim hq'
  · exact hq'.elim
  · exact hq'.elim
  · exact hq'.elim
  · obtain ⟨v, H', I3, rv, ev, q3⟩ := I2.after hq'
    subst ev
    exact ⟨rv, ⟨V.ref (hp.objs.size + 1), H', I3, rfl, q3⟩⟩
def tMkE (C : Addr) (sp : Sp) (dvs : List V) (t : TA) : TE := fun σ H Q => t σ H fun vs H1 => vs.length ≤ 1000 ∧ ∀ a, H1 a = none → sp (.ref a :: (vs ++ dvs)) (upd H1 a (exo a C none)) (fun v H2 => v = .non ∧ Q (.ref a) H2) E0
theorem pe_mkE {e : Expr} {es : List Expr} {t : TA} (T : EC X.K C fI) (F1 : FnOk X.prog X.w X.K X.mg X.base CX0 k fI fd ps sp) (hr : Room (k + 1) X.A) (hb : Binds X.K fd ps ds) (hd : Vals dvs ds) (hg : Gl X x) (hm : X.mg x = some (.ref C)) (ha : PA X (e :: es) t)
    (hdb : (x == ("__debug__" : Str)) = false := by decide) (he : starEach (e :: es) X.env = (false, eval e X.env) :: starEach es X.env := by rfl) (hpl : (backTo pos (starEach es X.env)).any (·.1) = false := by rfl) :
    PE X (.Call (.Name x p) (e :: es) [] pos) (tMkE C sp dvs t) := by
  constructor
  intro pins s σ H Q I h
  apply wpAny_Call_Name_kw (ld_glob I hg hm ?_ hdb)
  refine PySem.W.callWith_K (h₀ := X.base) I.ok.mod.kin T.t.kC (thn (ha.run pos pins s σ H _ I h) fun us s1 z => ?_) he hpl
  obtain ⟨vs, H1, I1, r1, hz, q1⟩ := z
  exact ⟨I1.kIn, run_mkE T.t T.iC T.tI F1 hr hb hd I1 r1 hz q1⟩
theorem pe_mkE0 (T : EC X.K C fI) (F1 : FnOk X.prog X.w X.K X.mg X.base CX0 k fI fd ps sp) (hr : Room (k + 1) X.A) (hb : Binds X.K fd ps ds) (hd : Vals dvs ds) (hg : Gl X x) (hm : X.mg x = some (.ref C))
    (hdb : (x == ("__debug__" : Str)) = false := by decide) : PE X (.Call (.Name x p) [] [] pos) (tMkE C sp dvs tNil) := by
  constructor
  intro pins s σ H Q I h
  apply wpAny_Call_Name_kw (ld_glob I hg hm ?_ hdb)
  obtain ⟨hz, q1⟩ := h
  exact PySem.W.callWith_K0 I.kIn T.t.kC (run_mkE (us := []) (vs := []) T.t T.iC T.tI F1 hr hb hd I .nil hz q1)
/-- C(k = v) -/
def tMkEK (C : Addr) (sp : Sp) (gV : List V → List V → List V) (t : TA) : TE := fun σ H Q => t σ H fun zs H1 => zs.length = 1 ∧ ∀ a, H1 a = none → sp (gV [.ref a] zs) (upd H1 a (exo a C none)) (fun v H2 => v = .non ∧ Q (.ref a) H2) E0
theorem pe_mkEK {kws : List Keyword} {y : Str} {tk : TA} {gw : List Value → List Value → List Value} {gV : List V → List V → List V} (T : EC X.K C fI) (F1 : FnOk X.prog X.w X.K X.mg X.base CX0 k fI fd ps sp) (hr : Room (k + 1) X.A)
    (hb : KBn X.K fd ps 1 [y] gw gV) (hg : Gl X x) (hm : X.mg x = some (.ref C)) (hkw : PK X kws tk)
    (hall : (backToKw pos (keywordEach kws X.env)).all (·.1.isSome) = true := by rfl) (hks : (backToKw pos (keywordEach kws X.env)).filterMap (·.1) = [y] := by rfl) (hdb : (x == ("__debug__" : Str)) = false := by decide)
    (hpl : ((backTo pos (starEach [] X.env)).any (·.1) || (backToKw pos (keywordEach kws X.env)).any (·.1.isNone)) = false := by rfl) :
    PE X (.Call (.Name x p) [] kws pos) (tMkEK C sp gV tk) := by
  constructor
  intro pins s σ H Q I h
  apply wpAny_Call_Name_kw (ld_glob I hg hm ?_ hdb)
  refine PySem.W.callWith_KW0 (h₀ := X.base) I.ok.mod.kin T.t.kC hall (thn (hkw.run pos pins s σ H _ I h) fun ws s1 z => ?_) hpl
  obtain ⟨zs, H1, I1, rz, l1, q⟩ := z
  refine ⟨I1.kIn, ?_⟩
  rw [hks]
  obtain ⟨z, rfl⟩ : ∃ z, zs = [z] := by
    match zs, l1 with
    | [z], _ => exact ⟨z, rfl⟩
  cases rz with
  | @cons _ u _ _ ru rn =>
    cases rn
    obtain ⟨nm, q0, N, bs, bm, sn, sub, ab, col, dd, k0, k1, k2, k3, k5, hC, hbm⟩ := T.t.cls
    obtain ⟨hn, I2⟩ := new_exo (C := C) I1 []
    have hq := q _ hn
    have r2 : Vals (gV [V.ref (s1.heap.objs.size + 1)] [z]) (gw [Value.ref (s1.heap.objs.size + 1)] [u]) := hb.rel (.cons rfl .nil) (.cons ru .nil)
    have KX := I1.kIn
    obtain ⟨hp, g, dr, tk, os⟩ := s1
    apply wpAny_call
    show codeAny (model X.prog X.w) X.A (.call (.ref C) ⟨[], [(y, u)]⟩) _ _
    refine kw_call hbm (KX _ _ hC) (PySem.W.looks_findIn KX T.iC) (fun self => PySem.W.bind_fn KX self T.tI) ?_
    refine codeAny_mono (F1.run _ X.stack _ _ ⟨[Value.ref (hp.objs.size + 1)], [(y, u)]⟩ (gw [Value.ref (hp.objs.size + 1)] [u]) _ _ E0 (hr.make C [] [(y, u)]) (I2.env0.make C [] [(y, u)]) (hb.to _ [Value.ref (hp.objs.size + 1)] [u] I2.kIn rfl rfl) r2 hq) ?_
    rintro (er | (_ | _ | _ | uu)) s' hq'
    · exact False.elim hq'
    · exact hq'.elim
    · exact hq'.elim
    · exact hq'.elim
    · obtain ⟨v, H', I3, rv, ev, q3⟩ := I2.after hq'
      subst ev
      exact ⟨rv, ⟨V.ref (hp.objs.size + 1), H', I3, rfl, q3⟩⟩
end
end G1

set_option maxHeartbeats 4000000
/-! isinstance, the field, of such an exception; repr of data; powers. -/
namespace G1
open PySem PySem.Spec PyProof.Rows L2
/-! ### isinstance -/
theorem kin_cls {prog : Program} {w : World} {A : Around} {E : Value → Shared → Prop} {s : Shared} {K : PySem.W.Frag} {x D : Addr} {ox : Obj} {od : Option Obj} {Q : Option Value → Shared → Prop}
    (C : ExcC K D) (hf : PySem.W.findObj K D od "__class__" = some (.bind (.builtin "getset_descriptor.__get__") (.builtin "object.__class__")))
    (X : K.In s.heap) (I : PySem.W.InstAt s.heap x ox D od) (h : Q (some (.ref D)) { s with toks := s.toks + 1 }) : wpAny (model prog w) A (getAttr? (.ref x) "__class__") Q E s := by
  obtain ⟨hp, g, d, t, os⟩ := s
  have k0 := I.type (M := model prog w)
  have k1 := PySem.W.looks_findIn (M := model prog w) X C.hg
  have k2 := PySem.W.looks_findIn (M := model prog w) X C.hk
  have k3 := PySem.W.looks_find (M := model prog w) X I hf
  have ks : PySem.W.Looks (model prog w) hp (isInstance (.ref x) (.type "BaseException")) true := k0.andThen (PySem.W.looks_subIn X C.hs)
  have b2 : (Value.builtin "BaseException.__getattribute__" == Value.builtin "object.__getattribute__") = false := by decide +kernel
  have b1 : (onTheHeap (Value.ref D) && Value.builtin "BaseException.__getattribute__" == Value.builtin "object.__getattribute__") = false := by
    rw [b2]
    rfl
  have b0 : (false && onTheHeap (Value.builtin "BaseException.__getattribute__")) = false := rfl
  unfold getAttr? getAttrBy? getAttrBy
  apply wpAny_bind
  apply wpAny_mkText
  apply wpAny_bind
  apply wpAny_attempt
  apply wpAny_holding
  refine wpAny_bind (k0.at ?_)
  refine wpAny_bind (k1.at ?_)
  show wpAny _ _ (if (onTheHeap (Value.ref D) && Value.builtin "BaseException.__getattribute__" == Value.builtin "object.__getattribute__") = true then _ else _) _ _ _
  rw [b1, if_neg Bool.false_ne_true]
  unfold getAttrByItsOwn hookBefore
  apply wpAny_bind
  rw [if_pos (show onTheHeap (Value.ref D) = true from rfl)]
  refine k2.at ?_
  apply wpAny_bind
  apply wpAny_attempt
  apply wpAny_holding
  unfold callGetattribute
  rw [b0, if_neg Bool.false_ne_true]
  unfold boundAndCalled
  rw [PySem.F.excAttr_ValueError.ga.bind (.ref x)]
  apply wpAny_bind
  apply wpAny_pure
  show wpAny _ _ (call (.builtin "BaseException.__getattribute__") [.ref x, .str "__class__" t]) _ _ _
  apply wpAny_call
  apply codeAny_call_builtin PySem.F.excAttr_ValueError.ga.plain PySem.F.entry_bexc_ga
  refine @PySem.W.check_slot (model prog w) _ _ ⟨hp, g, d, t + 1, os⟩ "BaseException.__getattribute__" "BaseException" "__getattribute__" (.ref x) [.str "__class__" t] [] _ (by decide +kernel) (by decide +kernel) ks (PySem.F.args_bexc_ga (.ref x) (.str "__class__" t)) ?_
  unfold Builtin.«object.__getattribute__»
  refine wpAny_bind (wpAny_of_eq (a := ((Value.ref x : Value), [Value.str "__class__" t])) (by first | rfl | (simp only [slotArgs]; rfl)) ?_)
  apply wpAny_bind
  apply wpAny_pure
  refine wpAny_bind (k0.at ?_)
  refine wpAny_bind (k3.at ?_)
  show wpAny _ _ (holding [Value.builtin "object.__class__"] (call (.builtin "getset_descriptor.__get__") [.builtin "object.__class__", .ref x, .ref D]) >>= ret) _ _ _
  apply wpAny_bind
  apply wpAny_holding
  apply wpAny_call
  refine PySem.W.class_get (s := ⟨hp, g, d, t + 1, os⟩) (ox := ox) (od := od) X I C.hm ?_
  apply wpAny_pure
  show wpAny _ _ (handedOut (.ref D)) _ _ _
  rw [PySem.W.handedOut_of (v := .ref D) rfl]
  first
    | exact wpAny_pure (wpAny_pure h)
    | exact wpAny_pure h
    | exact wpAny_pure (wpAny_bind (wpAny_pure (wpAny_pure h)))
theorem find_cls {K : PySem.W.Frag} {D : Addr} (C : ExcC K D) (od : Option Obj) : PySem.W.findObj K D od "__class__" = some (.bind (.builtin "getset_descriptor.__get__") (.builtin "object.__class__")) := by
  obtain ⟨cd, hc, _⟩ := PySem.W.any_some C.hd
  unfold PySem.W.findObj
  rw [hc, Option.bind_some, C.ha, Option.bind_some]
  simp [C.hn, C.ht]
theorem kit_exc {K : PySem.W.Frag} {x D : Addr} {ox : Obj} {od : Option Obj} (C : ExcC K D) : PySem.W.KitX K (.ref x) (.ref D) (fun h => PySem.W.InstAt h x ox D od) := by
  have cls : ∃ c' d' cd' sl', K.lookup D = some ⟨c', d', .cls cd', sl'⟩ := by
    obtain ⟨cd, hc, _⟩ := PySem.W.any_some C.hd
    unfold PySem.W.clsIn at hc
    split at hc
    · rename_i c' d' cd' sl' ho
      exact ⟨c', d', cd', sl', ho⟩
    · cases hc
  obtain ⟨c', d', cd', sl', ho⟩ := cls
  constructor
  · exact fun _ _ _ I => I.type
  · intro M h X _ A' Q' E' s' k q
    unfold isType loadHead
    exact wpAny_bind (wpAny_loadPart (k _ _ (X _ _ ho)) (wpAny_pure q))
  · intro h tp dd its n sl X htp
    cases e : (Value.ref D == Value.ref tp) with
    | false => rfl
    | true =>
      have e2 : D = tp := Value.ref.inj (beq_iff_eq.mp e)
      subst e2
      cases (X _ _ ho).symm.trans htp
  · exact fun X I k => kin_cls C (find_cls C od) X I k
/-- at a stands an exception of the class at C, with or without a dict -/
def AnyErr (H : Hp) (a C : Addr) : Prop := H a = some (exo a C none) ∨ ∃ d fs, H a = some (exo a C (some d)) ∧ H d = some (exd d fs)
theorem ErrAt.any {H : Hp} {a C : Addr} {v : V} (h : ErrAt H a C v) : AnyErr H a C := .inr (by obtain ⟨d, h1, h2⟩ := h; exact ⟨d, _, h1, h2⟩)
section
variable {X : Cx} {pins : List (Addr × Obj)} {σ : L2.St} {H : Hp} {s : Shared}
theorem inst_err {a C : Addr} (I : Inv X pins σ H s) (h : AnyErr H a C) : ∃ ox od, PySem.W.InstAt s.heap a ox C od ∧ (∀ d fs, H a = some (exo a C (some d)) → H d = some (exd d fs) → ∃ o mA, od = some o ∧ s.heap.Ns1 d mA ∧ (∀ f, RelO (fs.lookup f) (mA f)) ∧ s.heap.get? d = some o) := by
  rcases h with h | ⟨d, fs, h1, h2⟩
  · obtain ⟨t1, g⟩ := exo_at I.hok h
    refine ⟨_, none, ⟨g, rfl, rfl, trivial⟩, fun d fs e _ => ?_⟩
    have z : exo a C none = exo a C (some d) := Option.some.inj (h.symm.trans e)
    have z1 : (HO.ext _) = HO.ext _ := z
    have z2 := congrFun (HO.ext.inj z1) s.heap
    have z3 : (∃ t1 : Addr, s.heap.get? a = some ({ cls := .ref C, dict := some d, data := .fields #[.ref t1, .none, .none, .none, .bool false, .none] } : Obj)) := z2.mp ⟨t1, g⟩
    obtain ⟨t2, g2⟩ := z3
    rw [g] at g2
    cases g2
  · obtain ⟨t1, g⟩ := exo_at I.hok h1
    obtain ⟨mA, hns, rel⟩ := exd_at I.hok h2
    obtain ⟨od, ho, hl⟩ := lookIn_ns hns
    refine ⟨_, some od, ⟨g, rfl, rfl, ho⟩, fun d' fs' e e2 => ?_⟩
    have z : exo a C (some d) = exo a C (some d') := Option.some.inj (h1.symm.trans e)
    have z1 : (HO.ext _) = HO.ext _ := z
    have z2 := congrFun (HO.ext.inj z1) s.heap
    have z3 : (∃ t1 : Addr, s.heap.get? a = some ({ cls := .ref C, dict := some d', data := .fields #[.ref t1, .none, .none, .none, .bool false, .none] } : Obj)) := z2.mp ⟨t1, g⟩
    obtain ⟨t2, g2⟩ := z3
    rw [g] at g2
    cases g2
    obtain ⟨mA', hns', rel'⟩ := exd_at I.hok e2
    exact ⟨od, mA', rfl, hns', rel', ho⟩
/-- isinstance(e, c), e such an exception -/
def rIsX (K : PySem.W.Frag) : List V → Hp → VK → Prop := fun xs H Q => ∃ (a C : Addr) (c : V) (u : Value) (b : Bool), xs = [.ref a, c] ∧ AnyErr H a C ∧ ExcC K C ∧ ClsV c u ∧ PySem.W.kitOne K (.ref C) u = some b ∧ Q (.bl b) H
theorem call_isX : CallR X (.builtin "isinstance") (rIsX X.K) := by
  intro pins s σ H xs us Q I r h
  obtain ⟨a, C, c, u, b, rfl, he, hC, hc, hk, q⟩ := h
  obtain ⟨u1, u2, rfl, r1, r2⟩ := vals2 r
  cases (show u1 = Value.ref a from r1)
  have e2 := hc.eq r2
  subst e2
  obtain ⟨ox, od, J, _⟩ := inst_err I he
  exact PySem.W.kia_one (kit_exc hC) I.kIn J hk (fun z => nomatch z) fun tk => ⟨.bl b, H, I.tok tk, rfl, q⟩
/-- both: data and such exceptions -/
theorem call_is2 : CallR X (.builtin "isinstance") (fun xs H Q => rIsX X.K xs H Q ∨ rIsi X.K xs H Q) := by
  intro pins s σ H xs us Q I r h
  rcases h with h | h
  · exact call_isX pins s σ H xs us Q I r h
  · exact call_isi pins s σ H xs us Q I r h
/-! ### e.value -/
def tVal (K : PySem.W.Frag) (te : TE) : TE := fun σ H Q => te σ H fun x H1 => ∃ (a C fI : Addr) (v : V), x = .ref a ∧ ErrAt H1 a C v ∧ EC K C fI ∧ Q v H1
theorem pe_val {e : Expr} {te : TE} {pos : Pos} (he : PE X e te) (hb : attributeBase e "value" X.env (eval e X.env) = eval e X.env := by rfl) : PE X (.Attribute e "value" pos) (tVal X.K te) := by
  constructor
  intro pins s σ H Q I h
  refine attr_of hb (thn (he.run pins s σ H _ I h) fun u s1 hh => ?_)
  obtain ⟨x, H1, I1, rx, a, C, fI, v, ex, ⟨d, ha, hd⟩, T, q⟩ := hh
  subst ex
  cases (show u = Value.ref a from rx)
  obtain ⟨ox, od, J, z⟩ := inst_err I1 (.inr ⟨d, _, ha, hd⟩)
  obtain ⟨o, mA, rfl, hns, rel, ho⟩ := z d _ ha hd
  have l : List.lookup ("value" : Str) [(("value" : Str), v)] = some v := by simp [List.lookup]
  obtain ⟨u2, hu, ru⟩ := RelO.some_of (v := v) (o := mA "value") (by rw [← l]; exact rel "value")
  obtain ⟨od2, ho2, hl⟩ := lookIn_ns hns
  have eo : o = od2 := by
    rw [ho] at ho2
    exact Option.some.inj ho2
  subst eo
  exact PySem.HandSPX.exc_get I1.kIn J T.x.hg T.x.hk T.x.hs (PySem.W.findObj_own T.x.hd T.nv rfl (by rw [hl, hu])) (handed_of ru) ⟨v, H1, I1.tok _, ru, q⟩
end
end G1

set_option maxHeartbeats 4000000
namespace G1
open PySem PySem.Spec PyProof.Rows L2
/-! ### powers of any base -/
def CPowW (i j : Int) : Prop := 0 ≤ j ∧ (Builtin.Int.intBits i : Int) * j ≤ 2 ^ 27
/-! ### repr of data: lists, tuples, texts, small numbers, the empty dict -/
/-- what stands at a value, as data; beside Dp the empty dict -/
inductive Rp (K : PySem.W.Frag) (H : Hp) : V → PyData → Prop
  | dp {v : V} {d : PyData} : Dp K H v d → Rp K H v d
  | dct {a : Addr} : H a = some (.dK []) → Rp K H (.ref a) (.dict [])
section
variable {X : Cx}
theorem op_powW : OpR X (binaryOp .Pow) (rI CPowW fun i j => .int (i ^ j.toNat)) := opI fun _ _ _ _ _ _ _ hc q => pow_int hc.1 hc.2 q
theorem rp_reads {pins : List (Addr × Obj)} {σ : L2.St} {H : Hp} {s : Shared} (I : Inv X pins σ H s) {v : V} {u : Value} {d : PyData} (h : Rp X.K H v d) (r : RelV v u) (hs : d.hasDict = false ∨ d = .dict []) :
    ∃ as, Reads s.heap u d as ∧ (d.hasDict = true → sysModules ∉ as) := by
  cases h with
  | dp h =>
    obtain ⟨as, q⟩ := Dp.reads I d v u h r
    refine ⟨as, q, fun z => ?_⟩
    rcases hs with hs | hs
    · rw [hs] at z
      cases z
    · subst hs
      cases h
  | @dct a e =>
    cases (show u = Value.ref a from r)
    obtain ⟨_, hsys, vs, kv, o, es, ep, h1, h2, h3, _, h5, _⟩ := (show ObjOk X.prog X.w H s.heap a (.dK []) from I.hok a _ e)
    have e0 : vs = [] := by
      cases kv
      rfl
    subst e0
    have e1 : es.toList = [] := by
      cases h5' : es.toList with
      | nil => rfl
      | cons x l =>
        rw [h5'] at h5
        cases h5
    refine ⟨[a], ?_, fun _ z => ?_⟩
    · have R := Reads.dict (h := s.heap) (a := a) (kvs := []) (as := []) (bs := []) h1 h2.1 h3 (by rw [e1]; exact .nil) (by rw [e1]; exact .nil)
      exact R
    · have ea : sysModules = a := List.mem_singleton.mp z
      rw [← ea] at hsys
      simp at hsys
def rRepr (K : PySem.W.Frag) : List V → Hp → VK → Prop := fun xs H Q => ∃ (v : V) (d : PyData), xs = [v] ∧ Rp K H v d ∧ (d.hasDict = false ∨ d = .dict []) ∧ d.showable = true ∧ d.depth ≤ 60 ∧ d.shown.length ≤ sizeLine ∧ Q (.str d.shown) H
theorem call_repr (hgd : Gd X.A) (hu : X.A.units + 64 < cLine) : CallR X (.builtin "repr") (rRepr X.K) := by
  intro pins s σ H xs us Q I r h
  obtain ⟨v, d, rfl, hr, hs, hsh, hdp, hl, q⟩ := h
  obtain ⟨u, rfl, ru⟩ := vals1 r
  have fin : ∀ (h' : Heap) (t : Tok) (tk : Nat), (∀ b o, s.heap.get? b = some o → h'.get? b = some o) → EP X pins σ Q (.str d.shown t) { s with heap := h', toks := tk } :=
    fun h' t tk k => ⟨.str d.shown, H, I.kept k, ⟨t, rfl⟩, q⟩
  have fin0 : ∀ (t : Tok), EP X pins σ Q (.str d.shown t) { s with toks := s.toks + 1 } := fun t => fin s.heap t _ fun _ _ e => e
  obtain ⟨as, hR, hsm⟩ := rp_reads I hr ru hs
  cases hR with
  | none => exact PySem.P.repr_of_none (fin0 _)
  | bool b => exact PySem.P.repr_of_bool (fin0 _)
  | int i t => exact PySem.P.repr_of_int (by simpa [PyData.showable] using hsh) (fin0 _)
  | str x t => exact PySem.P.repr_of_str (fin0 _) hl
  | list h1 h2 h3 h4 => exact repr_of_reads' (.list h1 h2 h3 h4) hsh hsm hgd (by omega) (fun _ _ e => e) (fun h' u tk k => fin h' u tk k) hl
  | tuple h1 h2 h3 h4 => exact repr_of_reads' (.tuple h1 h2 h3 h4) hsh hsm hgd (by omega) (fun _ _ e => e) (fun h' u tk k => fin h' u tk k) hl
  | dict h1 h2 h3 h4 h5 => exact repr_of_reads' (.dict h1 h2 h3 h4 h5) hsh hsm hgd (by omega) (fun _ _ e => e) (fun h' u tk k => fin h' u tk k) hl
end
end G1

set_option maxHeartbeats 4000000
namespace G1
open PySem PySem.Spec PyProof.Rows L2
section
variable {X : Cx}
/-- C(), C an own exception class without an own __init__ -/
def tMkN (C : Addr) : TE := fun _ H Q => ∀ a, H a = none → Q (.ref a) (upd H a (exo a C none))
theorem pe_mkN {C : Addr} {x : Str} {p pos : Pos} (q : PySem.W.excIn X.K C He.veBase "ValueError.__new__" = true) (kC : PySem.W.keepIn X.K (.ref C) = true) (hg : Gl X x) (gC : X.mg x = some (.ref C))
    (hdb : (x == ("__debug__" : Str)) = false := by decide) : PE X (.Call (.Name x p) [] [] pos) (tMkN C) := by
  constructor
  intro pins s σ H Q I h
  apply wpAny_Call_Name_kw (ld_glob I hg gC ?_ hdb)
  refine PySem.W.callWith_K0 I.kIn kC ?_
  obtain ⟨bm, N, nm, qn, bs, hdct, sn, sub, ab, col, dd, k0, k1, k2, k3, k5, mN, hC, hN, hni, T⟩ := exc_obj I.kIn q
  refine wpAny_call_exc_subT F.excBase_ValueError T hC hN hni (fun h' a hm => ?_) (by show 0 ≤ sizeLine; exact Nat.zero_le _)
  have hn : H a = none := I.hok.gone hm.new
  obtain ⟨t, ht, _, _⟩ := hm.there
  exact ⟨.ref a, upd H a (exo a C none), I.laidN hm.keeps hm.new hn (exo_ok ht), rfl, h a hn⟩
end
end G1

set_option maxHeartbeats 4000000
namespace K08
open PySem PySem.Spec PyProof.Rows L2 G1
def top (i : Nat) : Stmt := PySem.Challenge.pw_cardpanel_k08_panels_refused_and_by_name.main.body.getD i (.Pass ⟨0, 0, 0, 0⟩)
abbrev FnP (K : PySem.W.Frag) (x : Str) (st : Stmt) (f : Addr) (fd : FuncData) : Prop := FunD K x x (defArgs st) (defBody st) (defScope st) [] [] f fd
theorem okN {P : Program} {w : World} {K : PySem.W.Frag} {mg : Str → Option Value} {base : Heap} {x qual : Str} {params : Arguments} {body : List Stmt} {scope : Scope} {dvs : List V} {kws : List (Str × V)} {f : Addr} {fd : FuncData}
    {N ps : List Str} {k : Nat} {sp : Sp} (F : FunD K x qual params body scope dvs kws f fd) (S : FnScope N ps scope) (len : ∀ vs H Q E, sp vs H Q E → vs.length = ps.length)
    (hb : ∀ (cdv : Value) (A : Around) (outer : List Env) (s : Shared) (H : Hp) (vs : List V) (Q : VK) (E : XK), Room k (A.deeper (envOfC qual scope s.heap.objs.size f cdv)) → sp vs H Q E →
      ∃ t, PSs (cxOf CX0 P w K mg base N qual scope f cdv A outer s H E).nox body t ∧ t { nx := fun _ H' => Q .non H', rt := Q } (start N vs) H) : FnOk P w K mg base CX0 (k + 1) f fd ps sp :=
  F.ok S len fun cdv A outer s H vs Q E hr h => by
    obtain ⟨t, h1, h2⟩ := hb cdv A outer s H vs Q E hr h
    exact ⟨t, h1.nox, h2⟩
theorem gdN {P : Program} {w : World} {K : PySem.W.Frag} {mg : Str → Option Value} {base : Heap} {x qual : Str} {params : Arguments} {body : List Stmt} {scope : Scope} {dvs : List V} {kws : List (Str × V)} {f : Addr} {fd : FuncData}
    {N ps : List Str} {k : Nat} {sp : Sp} (F : FunD K x qual params body scope dvs kws f fd) (S : FnScope N ps scope) (len : ∀ vs H Q E, sp vs H Q E → vs.length = ps.length)
    (hb : ∀ (cdv : Value) (A : Around) (outer : List Env) (s : Shared) (H : Hp) (vs : List V) (Q : VK) (E : XK), Gd A → Room k (A.deeper (envOfC qual scope s.heap.objs.size f cdv)) → sp vs H Q E →
      ∃ t, PSs (cxOf CX0 P w K mg base N qual scope f cdv A outer s H E).nox body t ∧ t { nx := fun _ H' => Q .non H', rt := Q } (start N vs) H) : FnG P w K mg base (k + 1) f fd ps sp := by
  obtain ⟨oc, od, dV, kV, doc, pm, an, cdv, ct, osl, rfl, lk, hcd, _, _⟩ := F.ex
  refine FnG.body lk hcd S len fun A outer s H vs Q E hg hr h => ?_
  obtain ⟨t, h1, h2⟩ := hb cdv A outer s H vs Q E hg hr h
  exact ⟨t, h1.nox, h2⟩
/-! ### purses -/
def PurseL (xs : List V) (c : Nat) : Prop := ∃ v s t a : Int, xs = [.int v, .int s, .int t, .int a] ∧ 0 ≤ s ∧ s < 2147483648 ∧ 0 ≤ t ∧ t ≤ c ∧ 0 ≤ a ∧ a ≤ 1000
def Purse (H : Hp) (p : Addr) (c : Nat) : Prop := ∃ xs, H p = some (.lst xs) ∧ PurseL xs c
def But (p : Addr) (H H' : Hp) : Prop := ∀ b o, b ≠ p → H b = some o → H' b = some o
theorem PurseL.mono {xs : List V} {c d : Nat} (h : PurseL xs c) (l : c ≤ d) : PurseL xs d := by
  obtain ⟨v, s, t, a, e, h1, h2, h3, h4, h5⟩ := h
  exact ⟨v, s, t, a, e, h1, h2, h3, by omega, h5⟩
theorem Purse.mono {H : Hp} {p : Addr} {c d : Nat} (h : Purse H p c) (l : c ≤ d) : Purse H p d := by
  obtain ⟨xs, e, q⟩ := h
  exact ⟨xs, e, q.mono l⟩
theorem But.refl (p : Addr) (H : Hp) : But p H H := fun _ _ _ e => e
theorem But.trans {p : Addr} {H H1 H2 : Hp} (a : But p H H1) (b : But p H1 H2) : But p H H2 := fun c o n e => b c o n (a c o n e)
theorem But.upd {p : Addr} {H : Hp} {o : HO} : But p H (upd H p o) := fun b u n e => by
  rw [upd_ne n]
  exact e
theorem But.same {p : Addr} {H H' : Hp} (s : Same H H') : But p H H' := fun b o _ e => s b o e
theorem Purse.but {H H' : Hp} {p q : Addr} {c : Nat} (h : Purse H q c) (b : But p H H') (n : q ≠ p) : Purse H' q c := by
  obtain ⟨xs, e, z⟩ := h
  exact ⟨xs, b _ _ n e, z⟩
theorem Purse.same {H H' : Hp} {p : Addr} {c : Nat} (h : Purse H p c) (s : Same H H') : Purse H' p c := by
  obtain ⟨xs, e, z⟩ := h
  exact ⟨xs, s _ _ e, z⟩
/-! ### promises -/
def spMixed : Sp := fun vs H Q _ => ∃ s t a : Int, vs = [.int s, .int t, .int a] ∧ 0 ≤ s ∧ s < 2147483648 ∧ 0 ≤ t ∧ t < 2 ^ 40 ∧ 0 ≤ a ∧ a ≤ 1000 ∧ ∀ r : Int, Q (.int r) H
def spDraw : Sp := fun vs H Q _ => ∃ (p : Addr) (m : Int) (c : Nat), vs = [.ref p, .int m] ∧ 0 < m ∧ m < 1073741824 ∧ Purse H p c ∧ c ≤ 1000000 ∧
  ∀ (r : Int) (H' : Hp), 0 ≤ r → r < m → Purse H' p (c + 3) → But p H H' → Q (.int r) H'
section
variable {P : Program} {w : World} {K : PySem.W.Frag} {mg : Str → Option Value} {base : Heap}
end
end K08

set_option maxHeartbeats 8000000
namespace K08
open PySem PySem.Spec PyProof.Rows L2 G1
structure Lib (K : PySem.W.Frag) (mg : Str → Option Value) : Prop where
  sum : mg "sum" = none
  max : mg "max" = none
  min : mg "min" = none
  len : mg "len" = none
  range : mg "range" = none
section
variable {P : Program} {w : World} {K : PySem.W.Frag} {mg : Str → Option Value} {base : Heap}
end
end K08

set_option maxHeartbeats 8000000
namespace K08
open PySem PySem.Spec PyProof.Rows L2 G1
def spPurse (K : PySem.W.Frag) : Sp := fun vs H Q _ => ∃ (a : Addr) (i : Int) (ns : List Int), vs = [.ref a, .int i] ∧ SqL K H a (ns.map V.int) ∧ 0 ≤ i ∧ i ≤ 1000 ∧
  ∀ (p : Addr) (H' : Hp), H p = none → Purse H' p 0 → Same H H' → Q (.ref p) H'
theorem cut_ints (ns : List Int) (lo hi : Option Int) : ∃ zs : List Int, cutV (ns.map V.int) lo hi = zs.map V.int := by
  unfold cutV
  rw [← List.map_drop, ← List.map_take]
  exact ⟨_, rfl⟩
section
variable {P : Program} {w : World} {K : PySem.W.Frag} {mg : Str → Option Value} {base : Heap}
end
end K08

set_option maxHeartbeats 8000000
namespace K08
open PySem PySem.Spec PyProof.Rows L2 G1
def Letters (z : Str) : Prop := ∀ c ∈ z.cps.toList, 97 ≤ c ∧ c ≤ 122
/-- a name: one to eight small letters -/
def Nm (z : Str) : Prop := 1 ≤ z.length ∧ z.length ≤ 8 ∧ Letters z
def spWord : Sp := fun vs H Q _ => ∃ (p : Addr) (c : Nat), vs = [.ref p] ∧ Purse H p c ∧ c ≤ 900000 ∧
  ∀ (z : Str) (H' : Hp), Nm z → Purse H' p (c + 27) → But p H H' → Q (.str z) H'
theorem SqL.but {K : PySem.W.Frag} {H H' : Hp} {p l : Addr} {xs : List V} (h : SqL K H l xs) (b : But p H H') (n : l ≠ p) : SqL K H' l xs := by
  rcases h with (h | ⟨o, h⟩) | h
  · exact .inl (.inl (b _ _ n h))
  · exact .inl (.inr ⟨o, b _ _ n h⟩)
  · exact .inr h
theorem at_lt {xs : List V} {r : Int} (h0 : 0 ≤ r) (h1 : r < xs.length) : ∃ v, atI xs r = some v ∧ v ∈ xs := by
  obtain ⟨k, rfl⟩ := Int.eq_ofNat_of_zero_le h0
  have hk : k < xs.length := by omega
  exact ⟨xs[k], atI_nat (List.getElem?_eq_getElem hk), List.getElem_mem hk⟩
end K08

set_option maxHeartbeats 8000000
namespace K08
open PySem PySem.Spec PyProof.Rows L2 G1
/-- the items of a list in some order, a new list -/
def spShuf (K : PySem.W.Frag) : Sp := fun vs H Q _ => ∃ (p l : Addr) (xs : List V) (c : Nat), vs = [.ref p, .ref l] ∧ Purse H p c ∧ c ≤ 900000 ∧ SqL K H l xs ∧ l ≠ p ∧ xs.length ≤ 100 ∧
  ∀ (D : Addr) (ys : List V) (H' : Hp), ys.Perm xs → H' D = some (.lst ys) → H D = none → Purse H' p (c + 3 * xs.length) → But p H H' → Q (.ref D) H'
theorem ins_perm {zs xs : List V} {y : V} {k : Nat} (h : zs.Perm xs) : (zs.take k ++ [y] ++ zs.drop k).Perm (xs ++ [y]) := by
  have e : (zs.take k ++ [y] ++ zs.drop k).Perm ([y] ++ (zs.take k ++ zs.drop k)) := by
    rw [← List.append_assoc]
    exact List.Perm.append_right _ List.perm_append_comm
  rw [List.take_append_drop] at e
  exact (e.trans (List.Perm.append_left [y] h)).trans List.perm_append_comm
theorem sn {H : Hp} {p : Addr} {o : HO} (h : H p = none) : Same H (upd H p o) := fun b u e => by
  rw [upd_ne (ne_of_none e h)]
  exact e
/-- D is new to H -/
theorem but_new {p D : Addr} {H H' : Hp} {o : HO} (B : But p H H') (h : H D = none) : But p H (upd H' D o) := fun b u n e => by
  rw [upd_ne (ne_of_none e h)]
  exact B b u n e
theorem But.get {p b : Addr} {H H' : Hp} {o : HO} (B : But p H H') (n : b ≠ p) (h : H b = some o) : H' b = some o := B b o n h
section
variable {P : Program} {w : World} {K : PySem.W.Frag} {mg : Str → Option Value} {base : Heap}
end
end K08

set_option maxHeartbeats 8000000
namespace K08
open PySem PySem.Spec PyProof.Rows L2 G1
/-! ### the order of texts -/
def leS (a b : Str) : Prop := ¬ (b.cps.toList < a.cps.toList)
theorem leS_of {a b : Str} (h : ltCps b.cps.toList a.cps.toList = false) : leS a b := by
  rw [ltCps_eq] at h
  exact of_decide_eq_false h
theorem leS_trans {a b c : Str} (h1 : leS a b) (h2 : leS b c) : leS a c := fun z => by
  have l1 : a.cps.toList ≤ b.cps.toList := h1
  have l2 : b.cps.toList ≤ c.cps.toList := h2
  exact (List.le_trans l1 l2) z
theorem str_ext {a b : Str} (h : a.cps.toList = b.cps.toList) : a = b := by
  obtain ⟨⟨a⟩⟩ := a
  obtain ⟨⟨b⟩⟩ := b
  simp only at h
  rw [h]
theorem leS_anti {a b : Str} (h1 : leS a b) (h2 : leS b a) : a = b := str_ext (List.le_antisymm (show a.cps.toList ≤ b.cps.toList from h1) (show b.cps.toList ≤ a.cps.toList from h2))
theorem rising_pw : ∀ (p : Str) (l : List Str), risingS p l = true → (p :: l).Pairwise leS
  | p, [], _ => List.pairwise_singleton _ _
  | p, x :: r, h => by
    obtain ⟨h1, h2⟩ := He.ba (show (!ltCps x.cps.toList p.cps.toList && risingS x r) = true from h)
    have l1 : leS p x := leS_of (by simpa using h1)
    have ih := rising_pw x r h2
    refine List.pairwise_cons.mpr ⟨fun y hy => ?_, ih⟩
    rcases List.mem_cons.mp hy with rfl | hy
    · exact l1
    · exact leS_trans l1 (List.rel_of_pairwise_cons ih hy)
theorem sorted_pw {l : List Str} (h : sortedS l = true) : l.Pairwise leS := match l, h with
  | [], _ => .nil
  | x :: r, h => rising_pw x r h
theorem pw_eq : ∀ {xs ys : List Str}, xs.Pairwise leS → ys.Pairwise leS → xs.Perm ys → xs = ys
  | [], ys, _, _, p => (List.nil_perm.mp p).symm
  | x :: xs, [], _, _, p => by
    have := p.length_eq
    simp at this
  | x :: xs, y :: ys, h1, h2, p => by
    have e : x = y := by
      rcases List.mem_cons.mp (p.mem_iff.mp (List.mem_cons_self : x ∈ x :: xs)) with q | q
      · exact q
      · rcases List.mem_cons.mp (p.mem_iff.mpr (List.mem_cons_self : y ∈ y :: ys)) with r | r
        · exact r.symm
        · exact leS_anti (List.rel_of_pairwise_cons h1 r) (List.rel_of_pairwise_cons h2 q)
    subst e
    rw [pw_eq (List.pairwise_cons.mp h1).2 (List.pairwise_cons.mp h2).2 p.cons_inv]
/-- sorted lists of the same texts are the same -/
theorem sorted_uniq {xs ys : List Str} (h1 : sortedS xs = true) (h2 : sortedS ys = true) (p : xs.Perm ys) : xs = ys := pw_eq (sorted_pw h1) (sorted_pw h2) p
/-- entries: names, no one twice, in order -/
structure Ents (xs : List Str) : Prop where
  nm : ∀ x ∈ xs, Nm x
  nd : xs.Nodup
  so : sortedS xs = true
  st : ("pie" : Str) ∉ xs ∨ ("tart" : Str) ∉ xs
theorem map_str_inj : ∀ {xs ys : List Str}, xs.map V.str = ys.map V.str → xs = ys
  | [], [], _ => rfl
  | [], _ :: _, h => by cases h
  | _ :: _, [], h => by cases h
  | x :: xs, y :: ys, h => by
    injection h with h1 h2
    injection h1 with h3
    rw [h3, map_str_inj h2]
/-- a permutation of texts is one of texts -/
theorem perm_strs {ys : List V} {xs : List Str} (p : ys.Perm (xs.map V.str)) : ∃ zs : List Str, ys = zs.map V.str ∧ zs.Perm xs := by
  refine ⟨ys.map fun v => match v with | .str s => s | _ => Str.empty, ?_, ?_⟩
  · rw [List.map_map]
    refine (List.map_id' ys).symm.trans (List.map_congr_left fun v hv => ?_)
    obtain ⟨s, _, rfl⟩ := List.mem_map.mp (p.mem_iff.mp hv)
    rfl
  · have q := p.map fun v => match v with | .str s => s | _ => Str.empty
    rw [List.map_map] at q
    exact q.trans (by
      rw [show ((fun v => match v with | V.str s => s | _ => Str.empty) ∘ V.str) = id from rfl, List.map_id])
end K08

set_option maxHeartbeats 8000000
namespace K08
open PySem PySem.Spec PyProof.Rows L2 G1
def spNames : Sp := fun vs H Q _ => ∃ (p : Addr) (m : Int) (c : Nat), vs = [.ref p, .int m] ∧ 1 ≤ m ∧ m ≤ 6 ∧ Purse H p c ∧ c ≤ 100000 ∧
  ∀ (D : Addr) (xs : List Str) (H' : Hp), Ents xs → (xs.length : Int) = m → H' D = some (.lst (xs.map V.str)) → H D = none → Purse H' p (c + 100) → But p H H' → Q (.ref D) H'
def some8 : List Str := ["ale", "bun", "cob", "a", "zz", "egg", "marrows", "jam"]
theorem some8_nd : some8.Nodup := by decide +kernel
theorem some8_nm : ∀ x ∈ some8, Nm x := by
  have h : ∀ x ∈ some8, 1 ≤ x.length ∧ x.length ≤ 8 ∧ ∀ c ∈ x.cps.toList, 97 ≤ c ∧ c ≤ 122 := by decide +kernel
  exact h
theorem inV_str {xs : List Str} {x : Str} : inV (.str x) (xs.map V.str) = decide (x ∈ xs) := by
  unfold inV
  induction xs with
  | nil => simp
  | cons y ys ih =>
    rw [List.map_cons, List.any_cons, ih, show eqV (.str y) (.str x) = (y == x) from rfl]
    by_cases e : y = x
    · simp [e]
    · have e2 : (y == x) = false := beq_eq_false_iff_ne.mpr e
      simp only [e2, Bool.false_or, List.mem_cons, Ne.symm e, false_or]
theorem flat_strs {xs : List Str} : (xs.map V.str).all flatV = true := by
  rw [List.all_map]
  exact List.all_eq_true.mpr fun _ _ => rfl
theorem cut_take {xs : List V} {m : Nat} (h : m ≤ xs.length) : cutV xs none (some (m : Int)) = xs.take m := by
  have e : HT.sIx xs.length xs.length (some (m : Int)) = m := by
    unfold HT.sIx
    simp only [Int.toNat_natCast]
    rw [if_neg (by omega)]
    omega
  unfold cutV
  rw [e]
  rfl
theorem nil_or {z : Str} : (if z ∈ some8 then [] else [V.str z]) = (if z ∈ some8 then ([] : List Str) else [z]).map V.str := by
  by_cases h : z ∈ some8
  · rw [if_pos h, if_pos h]
    rfl
  · rw [if_neg h, if_neg h]
    rfl
/-- the eight and a fresh one -/
def nine (z : Str) : List Str := some8 ++ (if z ∈ some8 then [] else [z])
theorem nine_nd (z : Str) : (nine z).Nodup := by
  unfold nine
  by_cases h : z ∈ some8
  · rw [if_pos h, List.append_nil]
    exact some8_nd
  · rw [if_neg h]
    refine List.nodup_append.mpr ⟨some8_nd, List.pairwise_singleton _ _, fun a ha b hb e => ?_⟩
    rw [List.mem_singleton.mp hb] at e
    exact h (e ▸ ha)
theorem nine_nm {z : Str} (hz : Nm z) : ∀ x ∈ nine z, Nm x := by
  intro x hx
  unfold nine at hx
  rcases List.mem_append.mp hx with h | h
  · exact some8_nm x h
  · by_cases q : z ∈ some8
    · rw [if_pos q] at h
      cases h
    · rw [if_neg q] at h
      rw [List.mem_singleton.mp h]
      exact hz
theorem nine_st (z : Str) : ("pie" : Str) ∉ nine z ∨ ("tart" : Str) ∉ nine z := by
  have a1 : ("pie" : Str) ∉ some8 := by decide +kernel
  have a2 : ("tart" : Str) ∉ some8 := by decide +kernel
  have ne : ("pie" : Str) ≠ "tart" := by decide +kernel
  have one : ∀ y, y ∉ some8 → y ∈ nine z → y = z := fun y n h => by
    unfold nine at h
    rcases List.mem_append.mp h with h | h
    · exact absurd h n
    · by_cases q : z ∈ some8
      · rw [if_pos q] at h
        cases h
      · rw [if_neg q] at h
        exact List.mem_singleton.mp h
  by_cases h : ("pie" : Str) ∈ nine z
  · exact .inr fun h2 => ne ((one _ a1 h).trans (one _ a2 h2).symm)
  · exact .inl h
theorem nine_len (z : Str) : 8 ≤ (nine z).length ∧ (nine z).length ≤ 9 := by
  have e : some8.length = 8 := rfl
  unfold nine
  rw [List.length_append, e]
  by_cases h : z ∈ some8
  · rw [if_pos h]
    exact ⟨by simp, by simp⟩
  · rw [if_neg h]
    exact ⟨by simp, by simp⟩
end K08

set_option maxHeartbeats 8000000
namespace K08
open PySem PySem.Spec PyProof.Rows L2 G1
/-- lists of texts at these places -/
inductive RowsAt (H : Hp) : List Addr → List (List Str) → Prop
  | nil : RowsAt H [] []
  | cons {a : Addr} {r : List Str} {as : List Addr} {rs : List (List Str)} : H a = some (.lst (r.map V.str)) → RowsAt H as rs → RowsAt H (a :: as) (r :: rs)
theorem RowsAt.keep {H H' : Hp} {as : List Addr} {rs : List (List Str)} (h : RowsAt H as rs) (k : ∀ a ∈ as, ∀ o, H a = some o → H' a = some o) : RowsAt H' as rs := by
  induction h with
  | nil => exact .nil
  | cons e _ ih => exact .cons (k _ List.mem_cons_self _ e) (ih fun a ha => k a (List.mem_cons_of_mem _ ha))
theorem RowsAt.same {H H' : Hp} {as : List Addr} {rs : List (List Str)} (h : RowsAt H as rs) (s : Same H H') : RowsAt H' as rs := h.keep fun a _ o e => s a o e
theorem RowsAt.snoc {H : Hp} {a : Addr} {r : List Str} {as : List Addr} {rs : List (List Str)} (h : RowsAt H as rs) (e : H a = some (.lst (r.map V.str))) : RowsAt H (as ++ [a]) (rs ++ [r]) := by
  induction h with
  | nil => exact .cons e .nil
  | cons e2 _ ih => exact .cons e2 ih
theorem RowsAt.len {H : Hp} {as : List Addr} {rs : List (List Str)} (h : RowsAt H as rs) : as.length = rs.length := by
  induction h with
  | nil => rfl
  | cons _ _ ih => rw [List.length_cons, List.length_cons, ih]
theorem RowsAt.strs {H : Hp} {as : List Addr} {rs : List (List Str)} (h : RowsAt H as rs) {a : Addr} (ha : a ∈ as) : ∃ r ∈ rs, H a = some (.lst (r.map V.str)) := by
  induction h with
  | nil => cases ha
  | cons e _ ih =>
    rcases List.mem_cons.mp ha with rfl | ha
    · exact ⟨_, List.mem_cons_self, e⟩
    · obtain ⟨r, hr, e⟩ := ih ha
      exact ⟨r, List.mem_cons_of_mem _ hr, e⟩
/-- a list without whole numbers is no purse -/
theorem ne_purse {H : Hp} {a p : Addr} {xs : List V} {c : Nat} (h : H a = some (.lst xs)) (hx : ∀ v ∈ xs, ∀ i, v ≠ .int i) (hp : Purse H p c) : a ≠ p := by
  rintro rfl
  obtain ⟨_, hpx, v, s, t, b, rfl, _⟩ := hp
  rw [h] at hpx
  injection hpx with e
  injection e with e
  exact hx (.int v) (by rw [e]; exact List.mem_cons_self) v rfl
theorem str_no_int {r : List Str} : ∀ v ∈ r.map V.str, ∀ i, v ≠ .int i := by
  intro v hv i e
  obtain ⟨_, _, rfl⟩ := List.mem_map.mp hv
  cases e
theorem ref_no_int {r : List Addr} : ∀ v ∈ r.map V.ref, ∀ i, v ≠ .int i := by
  intro v hv i e
  obtain ⟨_, _, rfl⟩ := List.mem_map.mp hv
  cases e
theorem RowsAt.but {H H' : Hp} {as : List Addr} {rs : List (List Str)} {p : Addr} {c : Nat} (h : RowsAt H as rs) (b : But p H H') (hp : Purse H p c) : RowsAt H' as rs := h.keep fun a ha o e => by
  obtain ⟨r, _, e2⟩ := h.strs ha
  exact b a o (ne_purse e2 str_no_int hp) e
theorem new_back {p a : Addr} {H H' : Hp} {c : Nat} (b : But p H H') (hp : Purse H' p c) (n : H' a = none) : H a = none := by
  cases e : H a with
  | none => rfl
  | some o =>
    obtain ⟨pxs, hpx, _⟩ := id hp
    have q := b _ _ (Ne.symm (ne_of_none hpx n)) e
    rw [n] at q
    cases q
theorem cut_any {xs : List V} {m : Nat} : cutV xs none (some (m : Int)) = xs.take m := by
  by_cases h : m ≤ xs.length
  · exact cut_take h
  · have e : HT.sIx xs.length xs.length (some (m : Int)) = xs.length := by
      unfold HT.sIx
      simp only [Int.toNat_natCast]
      rw [if_neg (by omega)]
      omega
    unfold cutV
    rw [e, List.take_of_length_le (show xs.length ≤ m by omega)]
    exact List.take_of_length_le (Nat.le_refl _)
/-- the head of one row, then the others in the order of another one -/
theorem mixed_perm {xs bs rr : List Str} (hx : xs.Nodup) (hb : bs.Perm xs) (hr : rr.Perm xs) (m : Nat) : (rr.take m ++ bs.filter (fun z => decide (z ∉ rr.take m))).Perm xs := by
  have nt : (rr.take m).Nodup := List.Nodup.sublist (List.take_sublist _ _) (hr.nodup_iff.mpr hx)
  have nb : (bs.filter (fun z => decide (z ∉ rr.take m))).Nodup := List.Nodup.sublist List.filter_sublist (hb.nodup_iff.mpr hx)
  refine (List.perm_ext_iff_of_nodup (List.nodup_append.mpr ⟨nt, nb, fun a ha b hb2 e => ?_⟩) hx).mpr fun z => ?_
  · subst e
    have := (List.mem_filter.mp hb2).2
    exact of_decide_eq_true this ha
  · rw [List.mem_append, List.mem_filter]
    constructor
    · rintro (h | ⟨h, _⟩)
      · exact hr.mem_iff.mp (List.mem_of_mem_take h)
      · exact hb.mem_iff.mp h
    · intro h
      by_cases q : z ∈ rr.take m
      · exact .inl q
      · exact .inr ⟨hb.mem_iff.mpr h, decide_eq_true q⟩
def spRows (K : PySem.W.Frag) : Sp := fun vs H Q _ => ∃ (p n : Addr) (m : Int) (c : Nat) (xs : List Str), vs = [.ref p, .ref n, .int m] ∧ 1 ≤ m ∧ m ≤ 5 ∧ Purse H p c ∧ c ≤ 200000 ∧ SqL K H n (xs.map V.str) ∧ n ≠ p ∧ xs.Nodup ∧ 1 ≤ xs.length ∧ xs.length ≤ 6 ∧
  ∀ (D : Addr) (as : List Addr) (rs : List (List Str)) (H' : Hp), H' D = some (.lst (as.map V.ref)) → H D = none → RowsAt H' as rs → (∀ a ∈ as, H a = none ∧ a ≠ D) → (rs.length : Int) = m → (∀ r ∈ rs, r.Perm xs) → Purse H' p (c + 200) → But p H H' → Q (.ref D) H'
end K08

set_option maxHeartbeats 8000000
namespace K08
open PySem PySem.Spec PyProof.Rows L2 G1
/-- a comprehension over a text, sign by sign -/
theorem lc_str {x : Str} {g : TG} {tt : TT} {te : TE} {vs : List Nat} {σ : L2.St} {H1 : Hp} {D : Addr} {Qd : Hp → Prop} (Pv : Nat → Hp → Prop) (h0 : Pv 0 (upd H1 D (.lst [])))
    (hs : ∀ i c H, x.cps[i]? = some c → Pv i H → g (.str ⟨#[c]⟩) (wipe σ vs) H fun σ2 H2 => wipe σ2 vs = wipe σ vs ∧ tt σ2 H2 fun b H3 =>
      if b = true then te σ2 H3 fun y H4 => ∃ acc, H4 D = some (.lst acc) ∧ acc.length < sizeLine ∧ Pv (i + 1) (upd H4 D (.lst (acc ++ [y]))) else Pv (i + 1) H3) (hd : ∀ H, Pv x.cps.size H → Qd H) :
    ∃ W : Nat → Nat → Hp → Prop, (∃ m, W 0 m (upd H1 D (.lst []))) ∧ ∀ i m H, W i m H →
      ((Its x).stop i H ∧ Qd H) ∨ ((Its x).go i H ∧ ∃ Nx : Hp → Prop, (∀ H', Nx H' → ∃ m', m' < m ∧ W (i + 1) m' H') ∧ ∀ y H', (Its x).yld i H y H' → g y (wipe σ vs) H' fun σ2 H2 => wipe σ2 vs = wipe σ vs ∧ tt σ2 H2 fun b H3 =>
        if b = true then te σ2 H3 fun y H4 => ∃ acc, H4 D = some (.lst acc) ∧ acc.length < sizeLine ∧ Nx (upd H4 D (.lst (acc ++ [y]))) else Nx H3) := by
  refine ⟨fun i m H => m = x.cps.size - i ∧ i ≤ x.cps.size ∧ Pv i H, ⟨x.cps.size, rfl, Nat.zero_le _, h0⟩, ?_⟩
  rintro i m H ⟨rfl, hi, p⟩
  by_cases lt : i < x.cps.size
  · refine .inr ⟨lt, Pv (i + 1), fun H' p' => ⟨x.cps.size - (i + 1), by omega, rfl, lt, p'⟩, fun y H' z => ?_⟩
    obtain ⟨rfl, c, hc, rfl⟩ := z
    exact hs i c H' hc p
  · refine .inl ⟨Nat.le_of_not_lt lt, hd H ?_⟩
    have e : i = x.cps.size := by omega
    rw [← e]
    exact p
def isLetter (c : Nat) : Bool := decide (97 ≤ c) && decide (c ≤ 122)
def isNm (z : Str) : Bool := decide (1 ≤ z.length) && (decide (z.length ≤ 8) && z.cps.toList.all isLetter)
theorem isNm_iff {z : Str} : isNm z = true ↔ Nm z := by
  unfold isNm Nm Letters
  rw [Bool.and_eq_true, Bool.and_eq_true, decide_eq_true_iff, decide_eq_true_iff, List.all_eq_true]
  unfold isLetter
  simp only [Bool.and_eq_true, decide_eq_true_iff]
/-- what is known of a value where it is asked whether it is a name -/
inductive Nmb (K : PySem.W.Frag) (H : Hp) : V → Bool → Prop
  | str {z : Str} : z.length ≤ 1000 → Nmb K H (.str z) (isNm z)
  | not {v : V} {T : String} : TyX K H v (.type T) → kitB T "str" = some false → Nmb K H v false
def spIsName (K : PySem.W.Frag) : Sp := fun vs H Q _ => ∃ (v : V) (b : Bool), vs = [v] ∧ Nmb K H v b ∧ ∀ H', Same H H' → Q (.bl b) H'
theorem sign_le {c : Nat} : (!decide ((⟨#[c]⟩ : Str).cps.toList < ("a" : Str).cps.toList)) = decide (97 ≤ c) := by
  have e : ((⟨#[c]⟩ : Str).cps.toList < ("a" : Str).cps.toList) ↔ c < 97 := by
    show ([c] : List Nat) < [97] ↔ _
    rw [List.cons_lt_cons_iff]
    simp
  by_cases h : c < 97
  · rw [decide_eq_true (e.mpr h), decide_eq_false (by omega)]
    rfl
  · rw [decide_eq_false (fun q => h (e.mp q)), decide_eq_true (by omega)]
    rfl
theorem sign_ge {c : Nat} : (!decide (("z" : Str).cps.toList < (⟨#[c]⟩ : Str).cps.toList)) = decide (c ≤ 122) := by
  have e : (("z" : Str).cps.toList < (⟨#[c]⟩ : Str).cps.toList) ↔ 122 < c := by
    show ([122] : List Nat) < [c] ↔ _
    rw [List.cons_lt_cons_iff]
    simp
  by_cases h : 122 < c
  · rw [decide_eq_true (e.mpr h), decide_eq_false (by omega)]
    rfl
  · rw [decide_eq_false (fun q => h (e.mp q)), decide_eq_true (by omega)]
    rfl
structure LibP (mg : Str → Option Value) : Prop where
  all : mg "all" = none
  isi : mg "isinstance" = none
  str : mg "str" = none
  list : mg "list" = none
  set : mg "set" = none
  sorted : mg "sorted" = none
  long : ∃ t, mg "LONGEST_NAME" = some (.int 8 t)
section
variable {P : Program} {w : World} {K : PySem.W.Frag} {mg : Str → Option Value} {base : Heap}
abbrev sIsName : Stmt := top 13
theorem scIsName : FnScope ["value", "sign"] ["value"] (defScope sIsName) := ⟨rfl, rfl, rfl, by decide +kernel, rfl, by decide +kernel, by decide +kernel⟩
theorem ok_isName {f : Addr} {fd : FuncData} (F : FnP K "is_name" sIsName f fd) (L : Lib K mg) (LP : LibP mg) : FnOk P w K mg base CX0 1 f fd ["value"] (spIsName K) := by
  obtain ⟨tL, hL⟩ := LP.long
  refine okN F scIsName (fun vs H Q E h => ?_) (fun cdv A outer s H vs Q E hr h => ?_)
  · obtain ⟨_, _, rfl, _⟩ := h
    rfl
  · obtain ⟨v, b, rfl, hv, k⟩ := h
    refine ⟨_, pss_cons (ps_if (pt_not (pt_val (pe_callB call_isi (by rfl) LP.isi (by decide +kernel) (pa_cons (pv 0) (pa_cons (pe_bltn (v := .ty "str") (by rfl) LP.str (by decide +kernel) rfl) pa_nil))))) (pss_one (ps_ret pe_bl)) pss_nil)
      (pss_one (ps_ret (pe_and (pe_chain op_le op_le pe_int (pe_callB call_len_str (by rfl) L.len PySem.boot_len (pa_cons (pv 0) pa_nil)) (pe_glob (v := .int 8) (by rfl) hL ⟨_, rfl⟩))
        (pe_one (pe_callB (cr_all rfl) (by rfl) LP.all (by decide +kernel) (pa_cons
          (pe_lc (own := [("sign", 1)]) (g := gName 1) (tt := tYes) (te := tChain (fun x y H Q => ∃ i j, x = .str i ∧ y = .str j ∧ Q (.bl (!decide (j.cps.toList < i.cps.toList))) H) (fun x y H Q => ∃ i j, x = .str i ∧ y = .str j ∧ Q (.bl (!decide (j.cps.toList < i.cps.toList))) H) (tC (.str "a")) (tVar 1) (tC (.str "z"))) rfl scIsName.nd (pi_str (pv 0))
            (blkOk_by (N := ["value", "sign"]) (sc := defScope sIsName) (by decide +kernel)) (fun _ _ _ _ _ => pg_name (i := 1) scIsName.nd rfl (Or.inl rfl)) (fun _ _ _ _ _ => pts_nil)
            (fun _ _ _ _ _ => pe_chain op_le_str op_le_str pe_str (pv 1) pe_str)) pa_nil)))))), ?_⟩
    cases hv with
    | @not _ T ty n =>
      refine ⟨_, rfl, v, .ty "str", .type T, .type "str", false, rfl, .ty _, ty, kit_ty n, false, rfl, iteT ?_⟩
      exact k H (Same.refl H)
    | @str z hz =>
      refine ⟨_, rfl, .str z, .ty "str", .type "str", .type "str", true, rfl, .ty _, ?_, kit_ty (by decide +kernel), true, rfl, iteF ?_⟩
      · exact .base (.str z)
      refine ⟨_, rfl, z, rfl, Nat.le_of_lt (small1000 hz), _, _, rfl, rfl, _, rfl, ?_⟩
      refine ite2 (fun h1 => ?_) (fun h1 => ?_)
      · refine ⟨_, _, rfl, rfl, _, rfl, ite2 (fun h2 => ?_) (fun h2 => ?_)⟩
        · refine ⟨_, rfl, z, rfl, fun D hD => lc_str (x := z) (fun i H' => H' D = some (.lst ((z.cps.toList.take i).map fun c => V.bl (isLetter c))) ∧ Same H H') ⟨upd_same, sn hD⟩ ?_ ?_⟩
          · rintro i c H' hc ⟨q1, q2⟩
            have add : ∀ b : Bool, b = isLetter c → ∃ acc, H' D = some (HO.lst acc) ∧ acc.length < sizeLine ∧ (fun (i : Nat) (H' : Hp) => H' D = some (.lst ((z.cps.toList.take i).map fun c => V.bl (isLetter c))) ∧ Same H H') (i + 1) (upd H' D (.lst (acc ++ [V.bl b]))) := fun b hb => by
              refine ⟨_, q1, ?_, ?_, fun b o e => ?_⟩
              · refine small1000 ?_
                rw [List.length_map]
                have := List.length_take_le' i z.cps.toList
                have e2 : z.cps.toList.length = z.length := by simp [Str.length]
                omega
              · have hc2 : z.cps.toList[i]? = some c := by rw [Array.getElem?_toList]; exact hc
                rw [upd_same, List.take_succ, hc2, List.map_append, hb]
                rfl
              · rw [upd_ne (ne_of_none e hD)]
                exact q2 _ _ e
            refine ⟨rfl, _, rfl, _, _, rfl, rfl, _, rfl, ite2 (fun l1 => ?_) (fun l1 => ?_)⟩
            · rw [sign_le] at l1
              refine ⟨_, _, rfl, rfl, ?_⟩
              rw [sign_ge]
              exact add _ (by unfold isLetter; rw [l1, Bool.true_and])
            · rw [sign_le] at l1
              exact add _ (by unfold isLetter; rw [Bool.eq_false_iff.mpr l1, Bool.false_and])
          · rintro H' ⟨q1, q2⟩
            refine ⟨D, z.cps.toList.map isLetter, rfl, SqL.of ?_, ?_⟩
            · rw [q1, List.take_of_length_le (by simp), List.map_map]
              rfl
            · rw [List.all_map]
              have e : isNm z = z.cps.toList.all (id ∘ isLetter) := by
                unfold isNm
                rw [decide_eq_true (show 1 ≤ z.length by have q := of_decide_eq_true h1; omega), decide_eq_true (show z.length ≤ 8 by have q := of_decide_eq_true h2; omega), Bool.true_and, Bool.true_and]
                rfl
              rw [← e]
              exact k H' q2
        · have e : isNm z = false := by
            unfold isNm
            rw [decide_eq_false (show ¬ z.length ≤ 8 by have q := of_decide_eq_false (Bool.eq_false_iff.mpr h2); omega), Bool.false_and, Bool.and_false]
          rw [e] at k
          exact k H (Same.refl H)
      · have e : isNm z = false := by
          unfold isNm
          rw [decide_eq_false (show ¬ 1 ≤ z.length by have q := of_decide_eq_false (Bool.eq_false_iff.mpr h1); omega), Bool.false_and]
        rw [e] at k
        exact ⟨false, rfl, iteF (k H (Same.refl H))⟩
end
end K08

set_option maxHeartbeats 4000000
/-! len(set(texts)) of a list of texts, however many. -/
namespace G1
open PySem PySem.Spec PyProof.Rows L2
def memS (xs : List Str) (i : Nat) : Str → Bool := fun k => (xs.take i).any (· == k)
def cntS (xs : List Str) : Nat → Nat
  | 0 => 0
  | i + 1 => if memS xs i (xs.getD i Str.empty) then cntS xs i else cntS xs i + 1
theorem cntS_le (xs : List Str) : ∀ i, cntS xs i ≤ i
  | 0 => Nat.le_refl 0
  | i + 1 => by
    have := cntS_le xs i
    unfold cntS
    split <;> omega
theorem memS_iff {xs : List Str} {i : Nat} {k : Str} : memS xs i k = true ↔ k ∈ xs.take i := by
  unfold memS
  rw [List.any_eq_true]
  constructor
  · rintro ⟨z, hz, e⟩
    rw [← eq_of_beq e]
    exact hz
  · exact fun h => ⟨k, h, beq_self_eq_true _⟩
theorem take_next {xs : List Str} {i : Nat} (h : i < xs.length) : xs.take (i + 1) = xs.take i ++ [xs.getD i Str.empty] := by
  rw [List.take_succ, List.getD_eq_getElem?_getD, List.getElem?_eq_getElem h]
  rfl
theorem cntS_full (xs : List Str) : ∀ i, i ≤ xs.length → (cntS xs i = i ↔ (xs.take i).Nodup)
  | 0, _ => by simp [cntS]
  | i + 1, h => by
    have ih := cntS_full xs i (by omega)
    have le := cntS_le xs i
    rw [take_next (by omega), List.nodup_append]
    unfold cntS
    by_cases m : memS xs i (xs.getD i Str.empty) = true
    · rw [if_pos m]
      refine ⟨fun e => by omega, fun ⟨_, _, d⟩ => absurd rfl (d _ (memS_iff.mp m) _ (List.mem_singleton.mpr rfl))⟩
    · rw [if_neg m]
      refine ⟨fun e => ⟨ih.mp (by omega), List.pairwise_singleton _ _, fun a ha b hb q => ?_⟩, fun ⟨d, _⟩ => by rw [ih.mpr d]⟩
      rw [List.mem_singleton.mp hb] at q
      exact m (memS_iff.mpr (q ▸ ha))
section
variable {prog : Program} {w : World} {A : Around} {R : Result → Shared → Prop} {I : Addr} {fp wr : List Addr} {G : Array GenState → Array GenState → Prop} {n : Nat} {P : Nat → Value → Prop} {St : Nat → Shared → Prop}
theorem set_same {h h' : Heap} {a : Addr} {M : Str → Bool} {n : Nat} (k : ∀ o, h.get? a = some o → h'.get? a = some o) (z : h.SetOf (PySem.strKind prog w) a M n) : h'.SetOf (PySem.strKind prog w) a M n := by
  obtain ⟨o, es, ep, tb, ho, z⟩ := z
  exact ⟨o, es, ep, tb, k o ho, z⟩
theorem strLoop (W : WalksS prog w A.in1 I fp wr G n P St) {a : Addr} (na : a ∉ fp) {xs : List Str} (len : xs.length = n) (hb : n < scanBound) (hv : ∀ i v, P i v → ∃ t, v = .str (xs.getD i Str.empty) t) (m : Nat) :
    ∀ (i : Nat) (s : Shared), i + m = n → St i s → s.heap.SetOf (PySem.strKind prog w) a (memS xs i) (cntS xs i) →
      (∀ s', Moved (a :: wr) G s s' → s'.heap.SetOf (PySem.strKind prog w) a (memS xs n) (cntS xs n) → R (.ok (.ret .none)) s') →
      codeAny (model prog w) A (.builtin "set.update.loop" ⟨[.ref a, .ref I], []⟩) R s := by
  have nw : a ∉ wr := fun z => na (W.sub _ z)
  have up : ∀ b ∈ wr, b ∈ a :: wr := fun _ z => List.mem_cons_of_mem _ z
  induction m with
  | zero =>
    intro i s e hst hS k
    obtain rfl : i = n := by omega
    refine codeAny_builtin PyProof.Rows.F.entry_set_update_loop ?_
    rw [Around.under_plainId PyProof.Rows.F.plain_set_update_loop _]
    exact wpAny_bind (W.done s _ _ hst fun s' hm => wpAny_pure (k s' (hm.mono up) (set_same (fun o => hm.heap a o nw) hS)))
  | succ m ih =>
    intro i s e hst hS k
    have lt : i < n := by omega
    refine codeAny_builtin PyProof.Rows.F.entry_set_update_loop ?_
    rw [Around.under_plainId PyProof.Rows.F.plain_set_update_loop _]
    refine wpAny_bind (W.item i s _ _ lt hst fun v s' hP hst' hm => ?_)
    obtain ⟨t, rfl⟩ := hv i v hP
    have hS1 := set_same (fun o => hm.heap a o nw) hS
    have le := cntS_le xs i
    show wpAny _ A.in1 (holding [Value.str (xs.getD i Str.empty) t] (setAdd a (.str (xs.getD i Str.empty) t)) >>= _) _ _ s'
    refine wpAny_bind (wpAny_holding (by
      unfold setAdd
      refine wpAny_holding (wpAny_bind ((PySem.strKind prog w).pyHash (k := xs.getD i Str.empty) (strKind_is _ _ _ _) ?_))
      refine wpAny_setAddHashed_of (knd := PySem.strKind prog w) (s := { s' with toks := s'.toks + 1 }) (strKind_is _ _ _ _) rfl hS1 (by omega) fun h' sb hS2 => ?_
      have hS3 : h'.SetOf (PySem.strKind prog w) a (memS xs (i + 1)) (cntS xs (i + 1)) := by
        refine SetOf_congr hS2 (fun z => ?_) rfl
        show ((xs.take i).any (· == z) || decide (z = xs.getD i Str.empty)) = (xs.take (i + 1)).any (· == z)
        rw [take_next (by omega), List.any_append]
        congr 1
        by_cases q : z = xs.getD i Str.empty
        · simp [q]
        · have q2 : (xs.getD i Str.empty == z) = false := beq_eq_false_iff_ne.mpr (Ne.symm q)
          simp only [List.any_cons, List.any_nil, q2, Bool.or_false, decide_eq_false q]
      refine wpAny_pure ⟨plainId_quiet PyProof.Rows.F.plain_set_update_loop _, ih (i + 1) _ (by omega) ?_ hS3 fun s2 hm2 hS4 => k s2 (Moved.trans W.gtrans ((hm.mono up).then_heap (Nat.le_succ _) fun b o hb q => ?_) hm2) hS4⟩
      · refine W.frame _ s' _ _ hst' (Nat.le_succ _) fun b hb o q => ?_
        exact (sb.2 b fun z => na (z ▸ hb)).trans q
      · exact (sb.2 b fun z => hb (z ▸ List.mem_cons_self)).trans q))
end
section
variable {prog : Program} {w : World} {A : Around} {E : Value → Shared → Prop} {s : Shared}
/-- what set(l) leaves behind -/
def SetLeft (prog : Program) (w : World) (s : Shared) (xs : List Str) (h' : Heap) : Prop :=
  h'.SetOf (PySem.strKind prog w) s.heap.objs.size (memS xs xs.length) (cntS xs xs.length) ∧ ∀ b o, b < s.heap.objs.size → s.heap.get? b = some o → h'.get? b = some o
abbrev emptySet (led : Bool) : Obj := { cls := .type "set", dict := none, data := .set #[] 0 (.fresh 0 0 led) }
theorem call_setS {l : Addr} {items : Array Value} {xs : List Str} {Q : Value → Shared → Prop} (hh : A.handled = none) (hl : s.heap.IsList l items) (hi : StrsAre items.toList xs) (hb : xs.length < scanBound)
    (k : ∀ (h' : Heap) (tk : Nat), SetLeft prog w s xs h' → Q (.ref s.heap.objs.size) { s with heap := h', toks := tk }) : wpAny (model prog w) A (call (.type "set") [.ref l]) Q E s := by
  have len : xs.length = items.size := by rw [← StrsAre.len_eq hi, Array.length_toList]
  obtain ⟨cT, tT, hmro⟩ := PySem.F.called_set.mro
  have y1 := PySem.F.called_set.made
  have y2 := PySem.F.called_set.sub
  have y3 := PySem.F.called_set.notType
  have y4 := PySem.F.called_set.canCreate
  have y5 := PySem.F.typeCall_set_1 (.ref l)
  refine wpAny_call (codeAny_of_tree (show wpAny _ _ (callAny (.type "set") _) _ _ _ from wpAny_pure ⟨Code.quiet_builtin _ (by decide +kernel), codeAny_builtin PySem.F.entry_type_call ?_⟩))
  rw [Around.under_plain (weight_type_call_type "set" [.ref l] []) rfl]
  repeat (any_goals (first | assumption | wp_step))
  refine codeAny_mono (code_set_new_1 (.ref l) (E := E) (Q₁ := fun obj s₁ => ∃ led : Bool, obj = .ref s.heap.objs.size ∧ s₁ = { s with heap := s.heap.push (emptySet led) }) fun led => ⟨led, rfl, rfl⟩) fun r s₁ hr => ?_
  match r, hr with
  | .error e, hr => exact hr
  | .ok (.ret obj), hr =>
    obtain ⟨led, rfl, rfl⟩ := hr
    have hS : (s.heap.push (emptySet led)).get? s.heap.objs.size = some (emptySet led) := Heap.get?_push_size _ rfl
    have hT : Shared.TypeIs { s with heap := s.heap.push (emptySet led) } (.ref s.heap.objs.size) "set" := ⟨_, hS, rfl⟩
    have i1 := PySem.F.called_set.init.lookup
    have i2 := PySem.F.called_set.init.bind (.ref s.heap.objs.size)
    repeat (any_goals (first | assumption | wp_step))
    refine codeAny_mono (codeAny_call_builtin (R := wants (fun r s₂ => r = .none ∧ ∃ h' tk, s₂ = { s with heap := h', toks := tk } ∧ SetLeft prog w s xs h') E) PySem.F.called_set.init.plain PySem.F.entry_set_init (check_set_init_1 hT ?_)) fun r₂ s₂ hr₂ => ?_
    · obtain ⟨⟨oc, od, dt, osl⟩, ho, hc, nl, hd⟩ := hl
      dsimp only at hc hd
      subst hc hd
      have lt : l < s.heap.objs.size := Heap.lt_size ho
      have ho1 : (s.heap.push (emptySet led)).get? l = some { cls := .type "list", dict := od, data := .seq items nl, slots := osl } := Heap.get?_push_of_some _ ho
      have z1 := PySem.F.sub_list_set
      have z2 := PySem.F.sub_list_frozenset
      have z3 : (Value.type "list" == Value.type "dict") = false := by decide
      have L1 : (s.heap.push (emptySet led)).IsList l items := ⟨_, ho1, rfl, nl, rfl⟩
      unfold Builtin.«set.__init__» noKeywords Builtin.Frozenset.updateFrom
      generalize hPI : pyIter = PI
      wp_walk
      subst hPI
      refine wpAny_pyIter_list L1 (wpAny_bind (wpAny_runValue ?_))
      have ne1 : l ≠ (s.heap.push (emptySet led)).objs.size := by
        rw [Heap.size_push]
        exact Nat.ne_of_lt (Nat.lt_succ_of_lt lt)
      have ne2 : s.heap.objs.size ∉ [(s.heap.push (emptySet led)).objs.size, l] := by
        rw [Heap.size_push]
        simp only [List.mem_cons, List.not_mem_nil, or_false, not_or]
        exact ⟨Nat.ne_of_lt (Nat.lt_succ_self _), Nat.ne_of_gt lt⟩
      refine strLoop ((Walks.list (by simp [hh]) _ l ne1 items).toS) ne2 len (by rw [← len]; exact hb) (fun i v e => SS.strs_at hi i v (by rw [Array.getElem?_toList]; exact e)) items.size 0 _ (by omega) ⟨⟨_, Heap.get?_push_size _ rfl, rfl, rfl⟩, L1.push _⟩ ?_ ?_
      · exact SetOf_congr ((setObjOf_fresh (knd := PySem.strKind prog w) led).setOf (Heap.get?_push_of_some _ hS) (by unfold scanBound; omega)) (fun _ => rfl) rfl
      · intro s' hm hS'
        obtain ⟨h', g', d', tk', os'⟩ := s'
        obtain rfl : g' = s.gens := hm.gens
        obtain rfl : d' = s.drawn := hm.drawn
        obtain rfl : os' = s.os := hm.os
        rw [← len] at hS'
        refine wpAny_pure (wpAny_pure ⟨rfl, h', tk', rfl, hS', fun b o lb e => hm.heap b o ?_ (Heap.get?_push_of_some _ (Heap.get?_push_of_some _ e))⟩)
        simp only [List.mem_cons, List.not_mem_nil, or_false, not_or]
        rw [Heap.size_push]
        exact ⟨Nat.ne_of_lt lb, Nat.ne_of_lt (Nat.lt_succ_of_lt lb)⟩
    · match r₂, hr₂ with
      | .error e, hr₂ => exact hr₂
      | .ok (.ret r), hr₂ =>
        obtain ⟨rfl, h', tk, rfl, left⟩ := hr₂
        repeat (any_goals (first | assumption | wp_step))
        exact k _ _ left
end
end G1

set_option maxHeartbeats 4000000
namespace G1
open PySem PySem.Spec PyProof.Rows L2
section
variable {X : Cx}
def tLenStrs (K : PySem.W.Frag) (ta : TE) : TE := fun σ H Q => ta σ H fun x H1 => ∃ l, ∃ xs : List Str, x = .ref l ∧ SqL K H1 l (xs.map V.str) ∧ xs.length ≤ 1000 ∧ Q (.int (cntS xs xs.length)) H1
theorem pe_lenStrs {a : Expr} {ta : TE} {p p2 q pos : Pos} (hc : X.calm = true) (g1 : Gl X "len") (m1 : X.mg "len" = none) (g2 : Gl X "set") (m2 : X.mg "set" = none) (ha : PE X a ta) (na : starEach [a] X.env = (false, eval a X.env) :: starEach [] X.env := by rfl) :
    PE X (.Call (.Name "len" p) [.Call (.Name "set" p2) [a] [] q] [] pos) (tLenStrs X.K ta) := by
  refine ⟨fun pins s σ H Q I h => Call_ (ld_blt I g1 m1 boot_len (callWith_builtin1 (args_cons (Call_ (ld_blt I g2 m2 boot_set ?_)) rfl) rfl rfl))⟩
  refine callWith_type1 (args_cons (thn (ha.run pins s σ H _ I h) fun v s1 ⟨x, H1, I1, r1, q1⟩ => args_nil ?_) na) na rfl
  obtain ⟨l, xs, rfl, hq, hb, q1⟩ := q1
  cases r1
  obtain ⟨its, r, pl, hz⟩ := I1.list hq
  have le := cntS_le xs xs.length
  refine call_setS (I1.ok.hd hc) pl.isList (xs := xs) (by simpa using strsAre_of r) (by unfold scanBound; omega) fun h' tk left => args_nil ?_
  obtain ⟨⟨o, es, ep, t, ho, hex, hd, _, _, _, hf, hn⟩, keep⟩ := left
  have I2 : Inv X pins σ H1 { s1 with heap := h', toks := tk } := I1.kept fun b o e => keep b o (Heap.lt_size e) e
  exact call_len_set ho hex hd hf (by rw [hn]; omega) ⟨.int (cntS xs xs.length), H1, I2.tok _, ⟨_, by rw [hn]⟩, q1⟩
end
end G1

set_option maxHeartbeats 8000000
namespace K08
open PySem PySem.Spec PyProof.Rows L2 G1
theorem TyX.same {K : PySem.W.Frag} {H H' : Hp} {v : V} {t : Value} (h : TyX K H v t) (s : Same H H') : TyX K H' v t := by
  cases h with
  | base h =>
    refine .base ?_
    cases h with
    | non => exact .non
    | bl x => exact .bl x
    | int x => exact .int x
    | str x => exact .str x
    | flt x => exact .flt x
    | lst e => exact .lst (s _ _ e)
    | frz e => exact .frz (s _ _ e)
    | tup e => exact .tup (s _ _ e)
    | dK e => exact .dK (s _ _ e)
    | dT e => exact .dT (s _ _ e)
    | ins e cl a b c d => exact .ins (s _ _ e) cl a b c d
  | byt b => exact .byt b
  | set e => exact .set (s _ _ e)
  | kList e c => exact .kList e c
  | kTuple e c => exact .kTuple e c
  | kDict e c => exact .kDict e c
  | fTuple e => exact .fTuple (s _ _ e)
  | fDict e => exact .fDict (s _ _ e)
theorem Nmb.same {K : PySem.W.Frag} {H H' : Hp} {v : V} {b : Bool} (h : Nmb K H v b) (s : Same H H') : Nmb K H' v b := by
  cases h with
  | str h => exact .str h
  | not t n => exact .not (TyX.same t s) n
inductive NmbL (K : PySem.W.Frag) (H : Hp) : List V → List Bool → Prop
  | nil : NmbL K H [] []
  | cons {v : V} {b : Bool} {vs : List V} {bs : List Bool} : Nmb K H v b → NmbL K H vs bs → NmbL K H (v :: vs) (b :: bs)
theorem NmbL.len {K : PySem.W.Frag} {H : Hp} {vs : List V} {bs : List Bool} (h : NmbL K H vs bs) : vs.length = bs.length := by
  induction h with
  | nil => rfl
  | cons _ _ ih => rw [List.length_cons, List.length_cons, ih]
theorem NmbL.same {K : PySem.W.Frag} {H H' : Hp} {vs : List V} {bs : List Bool} (h : NmbL K H vs bs) (s : Same H H') : NmbL K H' vs bs := by
  induction h with
  | nil => exact .nil
  | cons e _ ih => exact .cons (e.same s) ih
theorem NmbL.at {K : PySem.W.Frag} {H : Hp} {vs : List V} {bs : List Bool} (h : NmbL K H vs bs) : ∀ {i : Nat} {v : V}, vs[i]? = some v → ∃ b, bs[i]? = some b ∧ Nmb K H v b := by
  induction h with
  | nil => intro i v e; cases e
  | @cons v0 b0 vs bs h0 _ ih =>
    intro i v e
    match i, e with
    | 0, e =>
      cases e
      exact ⟨b0, rfl, h0⟩
    | i + 1, e => exact ih e
theorem NmbL.names {K : PySem.W.Frag} {H : Hp} {vs : List V} {bs : List Bool} (h : NmbL K H vs bs) (a : bs.all id = true) : ∃ zs : List Str, vs = zs.map V.str ∧ ∀ z ∈ zs, Nm z := by
  induction h with
  | nil => exact ⟨[], rfl, fun z hz => nomatch hz⟩
  | cons h0 _ ih =>
    rw [List.all_cons] at a
    obtain ⟨a1, a2⟩ := He.ba a
    obtain ⟨zs, rfl, hz⟩ := ih a2
    cases h0 with
    | @str z hl => exact ⟨z :: zs, rfl, fun y hy => by
        rcases List.mem_cons.mp hy with rfl | hy
        · exact isNm_iff.mp a1
        · exact hz y hy⟩
    | not _ _ => cases a1
theorem NmbL.ofNames {K : PySem.W.Frag} {H : Hp} {zs : List Str} (h : ∀ z ∈ zs, Nm z) : NmbL K H (zs.map V.str) (zs.map fun _ => true) := by
  induction zs with
  | nil => exact .nil
  | cons z zs ih =>
    have q := h z List.mem_cons_self
    have e := isNm_iff.mpr q
    have p : Nmb K H (.str z) (isNm z) := .str (by have := q.2.1; omega)
    rw [e] at p
    exact .cons p (ih fun y hy => h y (List.mem_cons_of_mem _ hy))
/-- what is told of it: no list, or a list with something in it that is no name; or names, and whether there are some, and no one twice -/
inductive Unl (K : PySem.W.Frag) (H : Hp) : V → Bool → Prop
  | no {v : V} {T : String} : TyX K H v (.type T) → kitB T "list" = some false → Unl K H v false
  | odd {a : Addr} {xs : List V} {bs : List Bool} : H a = some (.lst xs) → xs.length ≤ 100 → NmbL K H xs bs → bs.all id = false → Unl K H (.ref a) false
  | names {a : Addr} {zs : List Str} : H a = some (.lst (zs.map V.str)) → zs.length ≤ 100 → (∀ z ∈ zs, Nm z) → Unl K H (.ref a) (!zs.isEmpty && decide zs.Nodup)
theorem cnt_nodup (zs : List Str) : decide ((cntS zs zs.length : Int) = (zs.length : Int)) = decide zs.Nodup := by
  have q := cntS_full zs zs.length (Nat.le_refl _)
  rw [List.take_length] at q
  by_cases h : zs.Nodup
  · rw [decide_eq_true h, decide_eq_true (by have := q.mpr h; omega)]
  · rw [decide_eq_false h, decide_eq_false (fun e => h (q.mp (by omega)))]
def ndB (xs : List V) : Bool := decide ((xs.filterMap fun v => match v with | .str s => some s | _ => none).Nodup)
theorem nd_strs {zs : List Str} : ndB (zs.map V.str) = decide zs.Nodup := by
  unfold ndB
  rw [List.filterMap_map, show ((fun v => match v with | V.str s => some s | _ => none) ∘ V.str) = some from rfl, List.filterMap_some]
theorem unl_cases {K : PySem.W.Frag} {H : Hp} {v : V} {b : Bool} (h : Unl K H v b) : (∃ T, TyX K H v (.type T) ∧ kitB T "list" = some false ∧ b = false) ∨
    (∃ (a : Addr) (xs : List V) (bs : List Bool), v = .ref a ∧ H a = some (.lst xs) ∧ xs.length ≤ 100 ∧ NmbL K H xs bs ∧ b = (!xs.isEmpty && (bs.all id && ndB xs))) := by
  cases h with
  | @no _ T ty n => exact .inl ⟨T, ty, n, rfl⟩
  | @odd a xs bs h1 h2 h3 h4 => exact .inr ⟨a, xs, bs, rfl, h1, h2, h3, by rw [h4, Bool.false_and, Bool.and_false]⟩
  | @names a zs h1 h2 h3 =>
    refine .inr ⟨a, zs.map V.str, zs.map fun _ => true, rfl, h1, by rw [List.length_map]; exact h2, NmbL.ofNames h3, ?_⟩
    rw [nd_strs, List.all_map, show (zs.all (id ∘ fun _ => true)) = true from List.all_eq_true.mpr fun _ _ => rfl, Bool.true_and]
    cases zs <;> rfl
def spUnlike (K : PySem.W.Frag) : Sp := fun vs H Q _ => ∃ (v : V) (b : Bool), vs = [v] ∧ Unl K H v b ∧ ∀ H', Same H H' → Q (.bl b) H'
section
variable {P : Program} {w : World} {K : PySem.W.Frag} {mg : Str → Option Value} {base : Heap}
abbrev sUnlike : Stmt := top 16
theorem scUnlike : FnScope ["value", "name"] ["value"] (defScope sUnlike) := ⟨rfl, rfl, rfl, by decide +kernel, rfl, by decide +kernel, by decide +kernel⟩
theorem ok_unlike {f fN : Addr} {fd fdN : FuncData} (F : FnP K "are_unlike_names" sUnlike f fd) (L : Lib K mg) (LP : LibP mg) (FN : FnP K "is_name" sIsName fN fdN) (gN : mg "is_name" = some (.ref fN)) : FnOk P w K mg base CX0 2 f fd ["value"] (spUnlike K) := by
  have GN : FnOk P w K mg base CX0 1 fN fdN ["value"] (spIsName K) := ok_isName FN L LP
  have bN : Binds K fdN ["value"] [] := FN.bindsN fun _ _ _ _ _ _ us hl => match us, hl with | [_], _ => rfl
  refine okN F scUnlike (fun vs H Q E h => ?_) (fun cdv A outer s H vs Q E hr h => ?_)
  · obtain ⟨_, _, rfl, _⟩ := h
    rfl
  · obtain ⟨v, b, rfl, hv, k⟩ := h
    refine ⟨_, pss_cons (ps_if (PW.pt (pw_or (pt_not (pt_val (pe_callB call_isi (by rfl) LP.isi (by decide +kernel) (pa_cons (pv 0) (pa_cons (pe_bltn (v := .ty "list") (by rfl) LP.list (by decide +kernel) rfl) pa_nil)))))
        (pw_or1 (pt_not (pt_truth (pv 0) (by intro _; rfl)))))) (pss_one (ps_ret pe_bl)) pss_nil)
      (pss_one (ps_ret (pe_and (pe_callB (cr_all rfl) (by rfl) LP.all (by decide +kernel) (pa_cons
          (pe_lc (own := [("name", 1)]) (g := gName 1) (tt := tYes) (te := tCall (spIsName K) [] E0 (tCons (tVar 1) tNil)) rfl scUnlike.nd (pi_list (pv 0))
            (blkOk_by (N := ["value", "name"]) (sc := defScope sUnlike) (by decide +kernel)) (fun _ _ _ _ _ => pg_name (i := 1) scUnlike.nd rfl (Or.inl rfl)) (fun _ _ _ _ _ => pts_nil)
            (fun _ _ _ _ _ => pe_call GN hr (by rfl) gN FN.kp bN .nil pass0 (pa_cons (pv 1) pa_nil))) pa_nil))
        (pe_one (pe_cmpR op_eq (pe_lenStrs rfl (by rfl) L.len (by rfl) LP.set (pv 0)) (pe_callB call_len_seq (by rfl) L.len PySem.boot_len (pa_cons (pv 0) pa_nil)) (nomark _)))))), ?_⟩
    rcases unl_cases hv with ⟨T, ty, n, rfl⟩ | ⟨a, xs, bs, rfl, hH, hl, hb, rfl⟩
    · refine ⟨_, rfl, v, .ty "list", .type T, .type "list", false, rfl, .ty _, ty, kit_ty n, false, rfl, ?_⟩
      exact k H (Same.refl H)
    · refine ⟨_, rfl, .ref a, .ty "list", .type "list", .type "list", true, rfl, .ty _, .base (.lst hH), kit_ty (by decide +kernel), true, rfl, ?_⟩
      refine ⟨_, rfl, !xs.isEmpty, .inl ⟨xs, SqL.of hH, rfl⟩, ?_⟩
      cases xs with
      | nil => exact k H (Same.refl H)
      | cons x0 xs0 =>
        refine ⟨_, rfl, a, rfl, ⟨_, SqL.of hH⟩, fun D hD => lc_list (K := K) (a := a) (xs := x0 :: xs0) (fun i H' => H' D = some (.lst ((bs.take i).map V.bl)) ∧ Same H H') ⟨upd_same, sn hD⟩ (fun i H' _ h => SqL.of (h.2 _ _ hH)) ?_ ?_⟩
        · rintro i y H' hi ⟨q1, q2⟩
          obtain ⟨b1, hb1, nb⟩ := hb.at hi
          refine ⟨rfl, _, rfl, y, b1, rfl, nb.same q2, fun H2 s2 => ⟨_, s2 _ _ q1, ?_, ?_, fun c o e => ?_⟩⟩
          · refine small1000 ?_
            rw [List.length_map]
            have := List.length_take_le' i bs
            have := hb.len
            omega
          · rw [upd_same, List.take_succ, hb1, List.map_append]
            rfl
          · rw [upd_ne (ne_of_none e hD)]
            exact s2 _ _ (q2 _ _ e)
        · rintro H' ⟨q1, q2⟩
          rw [hb.len, List.take_length] at q1
          refine ⟨D, bs, rfl, SqL.of q1, _, rfl, ?_⟩
          cases hall : bs.all id with
          | false =>
            rw [hall] at k
            exact iteF (k H' q2)
          | true =>
            rw [hall] at k
            obtain ⟨zs, ez, hz⟩ := hb.names hall
            have hH' : H' a = some (.lst (zs.map V.str)) := by
              rw [← ez]
              exact q2 _ _ hH
            have lz : zs.length ≤ 100 := by
              rw [ez, List.length_map] at hl
              exact hl
            refine iteT ⟨_, rfl, a, zs, rfl, SqL.of hH', by omega, _, rfl, a, _, rfl, .inl (SqL.of hH'), rfl, ?_⟩
            have e : decide (V.int (cntS zs zs.length) = V.int (((zs.map V.str).length : Nat) : Int)) = ndB (x0 :: xs0) := by
              rw [ez, nd_strs, ← cnt_nodup, List.length_map]
              by_cases q : ((cntS zs zs.length : Int) = (zs.length : Int))
              · rw [decide_eq_true q, q]
                exact decide_eq_true rfl
              · rw [decide_eq_false q]
                exact decide_eq_false fun z => q (V.int.inj z)
            show Q (.bl (decide (V.int (cntS zs zs.length) = V.int (((zs.map V.str).length : Nat) : Int)))) H'
            rw [e]
            exact k H' q2
end
end K08

set_option maxHeartbeats 4000000
/-! Equality of things of all kinds, deep, the very same objects too. -/
namespace PySem.SeqAt
open AutoSeq1 (wpAny_loadPart')
open MeetsSeq
theorem g_dict_no_str (b : Str) (u : Tok) (l : Addr) (es : Array DictEntry) (n : Nat) (dd : Option Addr) (sl : Array (Option Value)) :
    Meets (Builtin.«dict.__eq__» ⟨[.ref l, .str b u], []⟩) (fun _ R s => s.heap.get? l = some { cls := .type "dict", dict := dd, data := .dict es n, slots := sl } ∧ R (.ok (.ret .notImplemented)) s) :=
  .of_wp fun prog w A R s h => by
    obtain ⟨hp, g, d, tk, os⟩ := s
    obtain ⟨hl, h⟩ := h
    have f1 := F.sub_str_dict
    wp_walk using wpAny_loadPart' hl, wpAny_load hl
    exact ⟨_, rfl, h⟩
theorem g_str_no_dict (b : Str) (u : Tok) (l : Addr) (es : Array DictEntry) (n : Nat) (dd : Option Addr) (sl : Array (Option Value)) :
    Meets (Builtin.«str.__eq__» ⟨[.str b u, .ref l], []⟩) (fun _ R s => s.heap.get? l = some { cls := .type "dict", dict := dd, data := .dict es n, slots := sl } ∧ R (.ok (.ret .notImplemented)) s) :=
  .of_wp fun prog w A R s h => by
    obtain ⟨hp, g, d, tk, os⟩ := s
    obtain ⟨hl, h⟩ := h
    wp_walk using wpAny_loadPart' hl, wpAny_load hl
    exact ⟨_, rfl, h⟩
section
variable {A : Around} {s : Shared} {l : Addr} {es : Array DictEntry} {n : Nat} {dd : Option Addr} {sl : Array (Option Value)}
theorem g_str_dict (b : Str) (u : Tok) (ho : s.heap.get? l = some { cls := .type "dict", dict := dd, data := .dict es n, slots := sl }) (hu : A.units < cLine) : EqAt A s (.str b u) (.ref l) false := fun prog w E Q h => by
  unfold eqBool
  refine wpAny_holding (wpAny_ite_split (fun q => absurd (eq_of_beq q) nofun) fun _ => wpAny_bind ?_)
  exact rc_eq_decline_or (k := false) (typeIs_str s b u) ⟨_, ho, rfl⟩ (by decide) F.sub_dict_str F.slot_str_eq F.slot_dict_eq_refl
    (fun _ q => call_meets F.slot_str_eq (typeIs_str s b u) F.entry_str_eq (F.args_str_eq_2 _ _) (g_str_no_dict b u l es n dd sl) ⟨ho, q⟩)
    (fun _ q => call_meets F.slot_dict_eq_refl ⟨_, ho, rfl⟩ F.entry_dict_eq (F.args_dict_eq_2 _ _) (g_dict_no_str b u l es n dd sl) ⟨ho, q⟩)
    (fun _ q => wpAny_of_eq (rfl : isSame (.str b u) (.ref l) = pure false) q) (.inr hu) (wpAny_truthy_bool h)
end
end PySem.SeqAt

set_option maxHeartbeats 4000000
namespace G1
open PySem PySem.Spec PyProof.Rows L2
/-- whether two things are equal, at most n deep (of things that stand in lists: the very same thing is equal to itself) -/
inductive EqW (K : PySem.W.Frag) (H : Hp) : Nat → V → V → Bool → Prop
  | flat {n : Nat} {x y : V} : flatV x = true → flatV y = true → EqW K H n x y (eqV x y)
  | same {n : Nat} {a : Addr} : EqW K H n (.ref a) (.ref a) true
  | lists {n : Nat} {a b : Addr} {xs ys : List V} {f : Nat → Bool} : a ≠ b → SqL K H a xs → SqL K H b ys → xs.length = ys.length → (∀ i x y, xs[i]? = some x → ys[i]? = some y → EqW K H n x y (f i)) →
      EqW K H (n + 1) (.ref a) (.ref b) ((List.range xs.length).all f)
  | lens {n : Nat} {a b : Addr} {xs ys : List V} : a ≠ b → SqL K H a xs → SqL K H b ys → xs.length ≠ ys.length → EqW K H (n + 1) (.ref a) (.ref b) false
  | strList {n : Nat} {z : Str} {b : Addr} {ys : List V} : SqL K H b ys → EqW K H (n + 1) (.str z) (.ref b) false
  | strTup {n : Nat} {z : Str} {b : Addr} {ys : List V} : SqT K H b ys → EqW K H (n + 1) (.str z) (.ref b) false
  | strDict {n : Nat} {z : Str} {b : Addr} {kvs : List (Key × V)} : H b = some (.dK kvs) → EqW K H (n + 1) (.str z) (.ref b) false
section
variable {X : Cx} {pins : List (Addr × Obj)} {σ : L2.St} {H : Hp} {s : Shared}
theorem vals_at : ∀ {xs : List V} {us : List Value} {i : Nat} {u : Value}, Vals xs us → us[i]? = some u → ∃ x, xs[i]? = some x ∧ RelV x u
  | _, _, i, _, .nil, h => by simp at h
  | x :: xs, u :: us, 0, _, .cons r t, h => by
    cases h
    exact ⟨x, rfl, r⟩
  | x :: xs, u :: us, i + 1, _, .cons r t, h => vals_at (xs := xs) (us := us) (i := i) t h
theorem EqW.at {n : Nat} {x y : V} {b : Bool} (h : EqW X.K H n x y b) (I : Inv X pins σ H s) : ∀ {A : Around} {u v : Value}, A.units + n < cLine → RelV x u → RelV y v → SeqAt.EqAt A s u v b := by
  induction h with
  | flat fx fy =>
    intro A u v _ rx ry
    exact eqAt_V rx ry fx fy
  | same =>
    intro A u v _ rx ry
    cases rx
    cases ry
    exact SeqAt.EqAt.same _
  | @lists n a b xs ys f ne ha hb len hf ih =>
    intro A u v hu rx ry
    cases rx
    cases ry
    obtain ⟨is, r1, p1, _⟩ := I.list ha
    obtain ⟨js, r2, p2, _⟩ := I.list hb
    have e1 := r1.length
    have e2 := r2.length
    have q := SeqAt.RcAt.lists (A := A) (s := s) (e := f) p1.isList p2.isList (by simp only [List.size_toArray]; omega) (by omega) fun j h1 h2 => by
      have g1 : is[j]? = some (is.toArray[j]'h1) := by simp
      have g2 : js[j]? = some (js.toArray[j]'h2) := by simp
      obtain ⟨x1, hx1, rx1⟩ := vals_at r1 g1
      obtain ⟨y1, hy1, ry1⟩ := vals_at r2 g2
      exact ih j x1 y1 hx1 hy1 (A := A.in1) (by have := units_in1 A; omega) rx1 ry1
    rw [List.size_toArray, ← e1] at q
    exact SeqAt.EqAt.of_refs ne q
  | @lens n a b xs ys ne ha hb len =>
    intro A u v hu rx ry
    cases rx
    cases ry
    obtain ⟨is, r1, p1, _⟩ := I.list ha
    obtain ⟨js, r2, p2, _⟩ := I.list hb
    have e1 := r1.length
    have e2 := r2.length
    exact SeqAt.EqAt.of_refs ne (SeqAt.RcAt.lists_lengths p1.isList p2.isList (by simp only [List.size_toArray, bne_iff_ne]; omega) (by omega))
  | @strList n z b ys hb =>
    intro A u v hu rx ry
    obtain ⟨t, rfl⟩ := rx
    cases ry
    obtain ⟨js, _, p2, _⟩ := I.list hb
    exact SeqAt.EqAt.str_list z t p2.isList (by omega)
  | @strTup n z b ys hb =>
    intro A u v hu rx ry
    obtain ⟨t, rfl⟩ := rx
    cases ry
    obtain ⟨js, _, p2, _⟩ := I.tuple hb
    exact SeqAt.EqAt.str_tuple z t p2 (by omega)
  | @strDict n z b kvs hb =>
    intro A u v hu rx ry
    obtain ⟨t, rfl⟩ := rx
    cases ry
    obtain ⟨_, _, vs, _, o, es, ep, ho, hx, hd, _⟩ := (show ObjOk X.prog X.w H s.heap b (.dK kvs) from I.hok b _ hb)
    obtain ⟨oc, od, dt, os⟩ := o
    dsimp only at hd
    subst hd
    obtain ⟨hc, _⟩ := hx
    dsimp only at hc
    subst hc
    exact SeqAt.g_str_dict z t ho (by omega)
end
end G1

set_option maxHeartbeats 4000000
namespace G1
open PySem PySem.Spec PyProof.Rows L2
/-- two lists, equal or not, their items at most n deep -/
def Lists2 (K : PySem.W.Frag) (H : Hp) (n : Nat) (x y : V) (b : Bool) : Prop := ∃ (a c : Addr) (xs ys : List V), x = .ref a ∧ y = .ref c ∧ SqL K H a xs ∧ SqL K H c ys ∧
  ((xs.length ≠ ys.length ∧ b = false) ∨ (xs.length = ys.length ∧ ∃ f : Nat → Bool, (∀ i x y, xs[i]? = some x → ys[i]? = some y → EqW K H n x y (f i)) ∧ b = (List.range xs.length).all f))
def rEqW (K : PySem.W.Frag) (n : Nat) : R2 := fun x y H Q => ∃ b, Lists2 K H n x y b ∧ Q (.bl b) H
def rNeW (K : PySem.W.Frag) (n : Nat) : R2 := fun x y H Q => ∃ b, Lists2 K H n x y b ∧ Q (.bl (!b)) H
section
variable {X : Cx} {n : Nat}
theorem items_at {pins : List (Addr × Obj)} {σ : L2.St} {H : Hp} {s : Shared} {xs ys : List V} {is js : List Value} {f : Nat → Bool} (I : Inv X pins σ H s) (r1 : Vals xs is) (r2 : Vals ys js) (hf : ∀ i x y, xs[i]? = some x → ys[i]? = some y → EqW X.K H n x y (f i)) {A : Around} (hu : A.units + n < cLine) :
    ∀ j (h1 : j < is.toArray.size) (h2 : j < js.toArray.size), SeqAt.EqAt A s is.toArray[j] js.toArray[j] (f j) := fun j h1 h2 => by
  have g1 : is[j]? = some (is.toArray[j]'h1) := by simp
  have g2 : js[j]? = some (js.toArray[j]'h2) := by simp
  obtain ⟨x1, hx1, rx1⟩ := vals_at r1 g1
  obtain ⟨y1, hy1, ry1⟩ := vals_at r2 g2
  exact (hf j x1 y1 hx1 hy1).at I hu rx1 ry1
theorem op_eqW (hu : X.A.units + (n + 1) < cLine) : OpR X (compareOp .Eq) (rEqW X.K n) := by
  intro pins s σ H x y v u Q I rx ry h
  obtain ⟨b, ⟨a, c, xs, ys, rfl, rfl, ha, hc, h⟩, q⟩ := h
  cases rx
  cases ry
  obtain ⟨is, r1, p1, _⟩ := I.list ha
  obtain ⟨js, r2, p2, _⟩ := I.list hc
  have e1 := r1.length
  have e2 := r2.length
  rcases h with ⟨ne, rfl⟩ | ⟨len, f, hf, rfl⟩
  · exact SeqAt.RcAt.lists_lengths p1.isList p2.isList (by simp only [List.size_toArray, bne_iff_ne]; omega) (by omega) _ _ _ _ ⟨.bl false, H, I, rfl, q⟩
  · have z := SeqAt.RcAt.lists (A := X.A) p1.isList p2.isList (e := f) (by simp only [List.size_toArray]; omega) (by omega) (items_at I r1 r2 hf (by have := units_in1 X.A; omega))
    rw [List.size_toArray, ← e1] at z
    exact z _ _ _ _ ⟨.bl _, H, I, rfl, q⟩
theorem op_neW (hu : X.A.units + (n + 1) < cLine) : OpR X (compareOp .NotEq) (rNeW X.K n) := by
  intro pins s σ H x y v u Q I rx ry h
  obtain ⟨b, ⟨a, c, xs, ys, rfl, rfl, ha, hc, h⟩, q⟩ := h
  cases rx
  cases ry
  obtain ⟨is, r1, p1, _⟩ := I.list ha
  obtain ⟨js, r2, p2, _⟩ := I.list hc
  have e1 := r1.length
  have e2 := r2.length
  rcases h with ⟨ne, rfl⟩ | ⟨len, f, hf, rfl⟩
  · exact SeqAt.RcNeAt.lists_lengths p1.isList p2.isList (by simp only [List.size_toArray, bne_iff_ne]; omega) (by omega) _ _ _ _ ⟨.bl true, H, I, rfl, q⟩
  · have z := SeqAt.RcNeAt.lists (A := X.A) p1.isList p2.isList (e := f) (by simp only [List.size_toArray]; omega) (by omega) (items_at I r1 r2 hf (by have := units_in1 X.A; omega))
    rw [List.size_toArray, ← e1] at z
    exact z _ _ _ _ ⟨.bl _, H, I, rfl, q⟩
/-- x in a list of texts, x of any kind -/
def rInW (K : PySem.W.Frag) (n : Nat) : R2 := fun x y H Q => ∃ (p : Addr) (zs : List Str) (f : Str → Bool), y = .ref p ∧ SqL K H p (zs.map V.str) ∧ (∀ z ∈ zs, EqW K H n (.str z) x (f z)) ∧ Q (.bl (zs.any f)) H
def itemS (f : Str → Bool) : Value → Bool
  | .str z _ => f z
  | _ => false
theorem any_itemS {f : Str → Bool} : ∀ {zs : List Str} {us : List Value}, Vals (zs.map V.str) us → us.any (itemS f) = zs.any f
  | [], _, .nil => rfl
  | z :: zs, u :: us, .cons r t => by
    obtain ⟨k, rfl⟩ := r
    rw [List.any_cons, List.any_cons, any_itemS t]
    rfl
theorem op_inW (hu : X.A.units + (n + 1) < cLine) : OpR X (compareOp .In) (rInW X.K n) := by
  intro pins s σ H x y v u Q I rx ry h
  obtain ⟨p, zs, f, rfl, hp, hf, q⟩ := h
  cases ry
  obtain ⟨is, r1, p1, _⟩ := I.list hp
  refine SeqAt.in_listAt (itemS f) p1.isList (fun w hw => ?_) ⟨.bl _, H, I, rfl, ?_⟩
  · obtain ⟨i, hi, e⟩ := List.mem_iff_getElem.mp (show w ∈ is by simpa using hw)
    obtain ⟨x1, hx1, rx1⟩ := vals_at r1 (i := i) (u := w) (by rw [← e]; exact List.getElem?_eq_getElem hi)
    rw [List.getElem?_map] at hx1
    obtain ⟨z, hz, rfl⟩ := Option.map_eq_some_iff.mp hx1
    have q1 := (hf z (List.mem_of_getElem? hz)).at I (A := X.A.in1) (by have := units_in1 X.A; omega) rx1 rx
    obtain ⟨k, rfl⟩ := rx1
    exact q1
  · rw [show is.toArray.any (itemS f) = is.any (itemS f) by simp, any_itemS r1]
    exact q
end
end G1

set_option maxHeartbeats 4000000
/-! x == y by an own __eq__, whatever it answers. -/
namespace G1
open PySem PySem.Spec PyProof.Rows L2
/-- the types that are told here -/
inductive TyE (H : Hp) : V → Value → Prop
  | non : TyE H .non (.type "NoneType")
  | bl (x : Bool) : TyE H (.bl x) (.type "bool")
  | int (i : Int) : TyE H (.int i) (.type "int")
  | str (z : Str) : TyE H (.str z) (.type "str")
  | lst {a : Addr} {xs : List V} : H a = some (.lst xs) → TyE H (.ref a) (.type "list")
  | tup {a : Addr} {xs : List V} : H a = some (.tup xs) → TyE H (.ref a) (.type "tuple")
  | dK {a : Addr} {kvs : List (Key × V)} : H a = some (.dK kvs) → TyE H (.ref a) (.type "dict")
  | ins {a C dx : Addr} {fs : List (Str × V)} : H a = some (.ins C dx fs) → TyE H (.ref a) (.ref C)
theorem TyE.same {H H' : Hp} {x : V} {t : Value} (h : TyE H x t) (s : Same H H') : TyE H' x t := by
  cases h with
  | non => exact .non
  | bl x => exact .bl x
  | int x => exact .int x
  | str x => exact .str x
  | lst e => exact .lst (s _ _ e)
  | tup e => exact .tup (s _ _ e)
  | dK e => exact .dK (s _ _ e)
  | ins e => exact .ins (s _ _ e)
section
variable {X : Cx} {pins : List (Addr × Obj)} {σ : L2.St} {H : Hp} {s : Shared}
theorem looks_ref {M : Model} {h : Heap} {a : Addr} {o : Obj} {t : Value} (e : h.get? a = some o) (c : o.cls = t) : PySem.W.Looks M h (typeOf (.ref a)) t := c ▸ (PySem.W.Looks.ld e).andThen .now
theorem looks_ty {x : V} {u t : Value} {M : Model} (I : Inv X pins σ H s) (rx : RelV x u) (ty : TyE H x t) : PySem.W.Looks M s.heap (typeOf u) t := by
  cases ty with
  | non =>
    cases rx
    exact PySem.W.Looks.now
  | bl x =>
    cases rx
    exact PySem.W.Looks.now
  | int i =>
    obtain ⟨k, rfl⟩ := rx
    exact PySem.W.Looks.now
  | str i =>
    obtain ⟨k, rfl⟩ := rx
    exact PySem.W.Looks.now
  | lst e =>
    cases rx
    obtain ⟨_, _, p, _⟩ := I.list (SqL.of (K := X.K) e)
    obtain ⟨o, ho, hc, _⟩ := p.isList
    exact looks_ref ho hc
  | tup e =>
    cases rx
    obtain ⟨_, _, p, _⟩ := I.tuple (SqT.of (K := X.K) e)
    obtain ⟨o, ho, hc, _⟩ := p
    exact looks_ref ho hc
  | dK e =>
    cases rx
    obtain ⟨_, _, vs, _, o, es, ep, ho, hx, _⟩ := (show ObjOk X.prog X.w H s.heap _ (.dK _) from I.hok _ _ e)
    exact looks_ref ho hx.1
  | ins e =>
    cases rx
    obtain ⟨mA, J, _⟩ := ins_get I.hok e
    obtain ⟨od, J, _⟩ := J.look
    exact J.type
/-- what an own __eq__ promises -/
def spEqB (D : V → V → Hp → Bool → Prop) : Sp := fun vs H Q _ => ∃ (x y : V) (b : Bool), vs = [x, y] ∧ D x y H b ∧ ∀ H', Same H H' → Q (.bl b) H'
def rEqO (K : PySem.W.Frag) (C : Addr) (D : V → V → Hp → Bool → Prop) : R2 := fun x y H Q => ∃ (a dx : Addr) (fs : List (Str × V)) (t : Value) (b : Bool), x = .ref a ∧ H a = some (.ins C dx fs) ∧ TyE H y t ∧ PySem.W.notFirst K C t = true ∧ D x y H b ∧ ∀ H', Same H H' → Q (.bl b) H'
theorem op_eqOwn {C f : Addr} {fd : FuncData} {ps : List Str} {k : Nat} {D : V → V → Hp → Bool → Prop} (F : FnOk X.prog X.w X.K X.mg X.base CX0 k f fd ps (spEqB D)) (hr : Room k X.A)
    (hs : PySem.W.findIn X.K (.ref C) "__eq__" = some (some (.ref f))) (hf : PySem.W.isFn X.K (.ref f) = true) (hb : Binds X.K fd ps []) : OpR X (compareOp .Eq) (rEqO X.K C D) := by
  intro pins s σ H x y v u Q I rx ry h
  obtain ⟨a, dx, fs, t, b, rfl, ha, ty, nf, hD, q⟩ := h
  cases rx
  obtain ⟨mA, J, _⟩ := ins_get I.hok ha
  obtain ⟨od, J, _⟩ := J.look
  obtain ⟨m, hF⟩ := I.fr
  refine PySem.W.cmp_K (op := .Eq) (tb := t) hr.units0 hF I.ok.mod.kin J (looks_ty I ry ty) nf hs hf ?_
  have r2 : Vals [V.ref a, y] [Value.ref a, u] := .cons rfl (.cons ry .nil)
  have sp : spEqB D ([V.ref a, y] ++ []) H (fun v H' => v = .bl b ∧ Same H H') E0 := ⟨.ref a, y, b, rfl, hD, fun H' s' => ⟨rfl, s'⟩⟩
  have len := F.len _ _ _ _ sp
  refine wpAny_call (codeAny_mono (F.run X.A X.stack s H ⟨[.ref a, u], []⟩ [.ref a, u] [V.ref a, y] _ E0 hr I.env0 (by
    have z := hb s [.ref a, u] I.kIn (by simpa using len)
    simpa using z) r2 sp) fun r s' hq => ?_)
  match r, hq with
  | .error e, hq => exact pass0 (X := X) pins σ H s e s' I hq
  | .ok (.ret w), hq =>
    obtain ⟨z, H', I', rz, ez, ex⟩ := I.after hq
    subst ez
    cases rz
    exact ⟨.bl b, H', I', rfl, q H' ex⟩
end
end G1

set_option maxHeartbeats 4000000
/-! x != y by an own __eq__. -/
namespace G1
open PySem PySem.W PySem.Calls PyProof.Rows
theorem slot_one : Slot "object" "__ne__" "object.__ne__" :=
  Slot.of (T := "object") (name := "__ne__") (owner := "object") (n := "__ne__") (by rw [typeLookup_type, builtinLookup_eq_fast]; kernel_rfl) (by decide +kernel) (by decide +kernel) (by decide +kernel) (.inl (by decide +kernel)) (by rw [isSubtype_type]; kernel_rfl)
section
variable {prog : Program} {w : World} {A : Around} {E : Value → Shared → Prop} {s : Shared} {K : Frag} {x C L f : Addr} {h₀ : Heap} {m : Str → Option Value} {ox : Obj} {od : Option Obj} {b tb : Value}
theorem ifBound_ne {M : Model} {args : List Value} {Q : Option Value → Shared → Prop} (X : K.In s.heap) (I : InstAt s.heap x ox C od) (hs : findIn K (.ref C) "__ne__" = some (some (.builtin "object.__ne__")))
    (h : wpAny M A (call (.builtin "object.__ne__") (.ref x :: args)) (fun v => Q (some v)) E s) : wpAny M A (callSpecialIfBound? (.ref x) "__ne__" args) Q E s := by
  simp only [callSpecialIfBound?, bindSpecialIfBound?]
  have fin : wpAny M A (call (.builtin "object.__ne__") ([.ref x] ++ args) >>= fun v => pure (some v)) Q E s := wpAny_bind (wpAny_mono h (fun v s' q => wpAny_pure q) fun _ _ q => q)
  refine wpAny_holding (wpAny_bind (wpAny_bind (wpAny_bind (I.type.here ((looks_findIn X hs).here ?_)))))
  simp only [slot_one.bind]
  refine wpAny_bind (wpAny_askSetting (wpAny_ite ?_))
  split
  · exact wpAny_bind (wpAny_pure (wpAny_pure fin))
  · exact wpAny_tryCatch (wpAny_bind (wpAny_pure (wpAny_pure fin)))
theorem check_ne {M : Model} {Q : Unit → Shared → Prop} (X : K.In s.heap) (I : InstAt s.heap x ox C od) (ho : subIn K (.ref C) (.type "object") = some true) (q : Q () s) :
    wpAny M A (checkBuiltinCall "object.__ne__" ⟨[.ref x, b], []⟩) Q E s := by
  simp only [checkBuiltinCall, PySem.F.cmpKind_ne, PySem.F.cmpSplit_ne]
  refine wpAny_bind ?_
  · unfold isInstance
    refine wpAny_bind (I.type.here ((looks_subIn X ho).here ?_))
    have ha : argsOk "object.__ne__" ⟨[.ref x, b], []⟩ := PySem.F.cmpArgs_ne _ _
    simp only [Bool.not_true, Bool.false_eq_true, if_false]
    cases hsig : Manifest.signature? "object.__ne__" with
    | none => exact wpAny_pure q
    | some sig =>
      simp only [argsOk, hsig] at ha
      have e : Bind.checkArgs "object.__ne__" sig ⟨[.ref x, b], []⟩ = pure () := ha
      show wpAny M A (Bind.checkArgs "object.__ne__" sig ⟨[.ref x, b], []⟩) Q E _
      rw [e]
      exact wpAny_pure q
theorem entry_ne (X : K.In s.heap) (I : InstAt s.heap x ox C od) (hs : findIn K (.ref C) "__eq__" = some (some (.ref f))) (hf : isFn K (.ref f) = true) (hu : A.units < cLine) {Q : Fin → Shared → Prop}
    (h : wpAny (model prog w) A (call (.ref f) [.ref x, b]) (fun v s' => ∃ c, v = .bool c ∧ Q (.done (.ret (.bool (!c)))) s') E s) : wpAny (model prog w) A (Builtin.«object.__ne__» ⟨[.ref x, b], []⟩) Q E s := by
  unfold Builtin.«object.__ne__»
  repeat (first
    | with_reducible refine wpAny_cRoomFor hu ?_
    | (refine wpAny_bind (m := callSpecialIfBound? (.ref x) (Str.ofString "__eq__") [b]) (ifBound_K X I hs hf (wpAny_mono h (fun r s' hr => by
        obtain ⟨c, rfl, hq⟩ := hr
        repeat (first | exact hq | exact wpAny_pure hq | exact wpAny_truthy_bool hq | (refine wpAny_bind (m := truthy (.bool _)) (wpAny_truthy_bool ?_)) | wp_step)) fun _ _ e => e)))
    | wp_step)
theorem ne_K {Q : Value → Shared → Prop} (hu : A.units + 1 < cLine) (F : Fr h₀ L s.heap m) (X₀ : K.In h₀) (I : InstAt s.heap x ox C od) (hb : Looks (model prog w) s.heap (typeOf b) tb) (hn : notFirst K C tb = true)
    (hne : findIn K (.ref C) "__ne__" = some (some (.builtin "object.__ne__"))) (ho : subIn K (.ref C) (.type "object") = some true) (hs : findIn K (.ref C) "__eq__" = some (some (.ref f))) (hf : isFn K (.ref f) = true)
    (h : wpAny (model prog w) A.in1 (call (.ref f) [.ref x, b]) (fun v s' => ∃ c, v = .bool c ∧ Q (.bool (!c)) s') E s) : wpAny (model prog w) A (richCompare .NotEq (.ref x) b) Q E s := by
  have X := X₀.keeps F.keep
  have one : wpAny (model prog w) A (tryCompare (.ref x) "__ne__" b) (fun r s' => ∃ v, r = some v ∧ Q v s') E s := by
    simp only [tryCompare]
    refine wpAny_bind (ifBound_ne X I hne (wpAny_call (codeAny_call_builtin slot_one.plain PySem.F.cmpEntry_ne (check_ne X I ho (entry_ne X I hs hf hu (wpAny_mono h (fun v s' hv => ?_) fun _ _ e => e))))))
    obtain ⟨c, rfl, hq⟩ := hv
    exact ⟨c, rfl, wpAny_pure ⟨_, rfl, hq⟩⟩
  unfold richCompare
  simp only [oneThing_ref]
  refine wpAny_holding (wpAny_bind (wpAny_cRoomFor (Nat.lt_of_succ_lt hu) ?_))
  rw [cmpInfo_NotEq]
  dsimp only
  refine wpAny_bind (I.type.here (wpAny_bind (hb.here ?_)))
  by_cases q : (Value.ref C != tb) = true
  · have e : subIn K tb (.ref C) = some false := by
      rcases Bool.or_eq_true_iff.mp hn with e | e
      · rw [beq_iff_eq.mp e] at q
        simp at q
      · exact beq_iff_eq.mp e
    rw [if_pos q]
    refine wpAny_bind ((looks_subIn X e).here ?_)
    simp only [Bool.false_eq_true, if_false]
    refine wpAny_bind (wpAny_mono one (fun r s' z => ?_) fun _ _ e => e)
    obtain ⟨v, rfl, hq⟩ := z
    exact wpAny_pure hq
  · rw [if_neg q]
    refine wpAny_bind (wpAny_pure ?_)
    simp only [Bool.false_eq_true, if_false]
    refine wpAny_bind (wpAny_mono one (fun r s' z => ?_) fun _ _ e => e)
    obtain ⟨v, rfl, hq⟩ := z
    exact wpAny_pure hq
end
end G1
namespace G1
open PySem PySem.Spec PyProof.Rows L2
section
variable {X : Cx} {pins : List (Addr × Obj)} {σ : L2.St} {H : Hp} {s : Shared}
def rNeO (K : PySem.W.Frag) (C : Addr) (D : V → V → Hp → Bool → Prop) : R2 := fun x y H Q => ∃ (a dx : Addr) (fs : List (Str × V)) (t : Value) (b : Bool), x = .ref a ∧ H a = some (.ins C dx fs) ∧ TyE H y t ∧ PySem.W.notFirst K C t = true ∧ D x y H b ∧ ∀ H', Same H H' → Q (.bl (!b)) H'
theorem op_neOwn {C f : Addr} {fd : FuncData} {ps : List Str} {k : Nat} {D : V → V → Hp → Bool → Prop} (F : FnOk X.prog X.w X.K X.mg X.base CX0 k f fd ps (spEqB D)) (hr : Room (k + 1) X.A)
    (hne : PySem.W.findIn X.K (.ref C) "__ne__" = some (some (.builtin "object.__ne__"))) (ho : PySem.W.subIn X.K (.ref C) (.type "object") = some true)
    (hs : PySem.W.findIn X.K (.ref C) "__eq__" = some (some (.ref f))) (hf : PySem.W.isFn X.K (.ref f) = true) (hb : Binds X.K fd ps []) : OpR X (compareOp .NotEq) (rNeO X.K C D) := by
  intro pins s σ H x y v u Q I rx ry h
  obtain ⟨a, dx, fs, t, b, rfl, ha, ty, nf, hD, q⟩ := h
  cases rx
  obtain ⟨mA, J, _⟩ := ins_get I.hok ha
  obtain ⟨od, J, _⟩ := J.look
  obtain ⟨m, hF⟩ := I.fr
  have hr1 : Room k X.A.in1 := hr.in1
  refine ne_K (tb := t) hr1.units0 hF I.ok.mod.kin J (looks_ty I ry ty) nf hne ho hs hf ?_
  have r2 : Vals [V.ref a, y] [Value.ref a, u] := .cons rfl (.cons ry .nil)
  have sp : spEqB D ([V.ref a, y] ++ []) H (fun v H' => v = .bl b ∧ Same H H') E0 := ⟨.ref a, y, b, rfl, hD, fun H' s' => ⟨rfl, s'⟩⟩
  have len := F.len _ _ _ _ sp
  have e0 : Env0 X.prog X.w X.K X.mg X.base X.A.in1 X.stack s H := by
    have e := I.env0
    exact ⟨e.frames, e.mod, e.bs, e.bsz, e.funs, e.frf, e.hok, e.bare⟩
  refine wpAny_call (codeAny_mono (F.run X.A.in1 X.stack s H ⟨[.ref a, u], []⟩ [.ref a, u] [V.ref a, y] _ E0 hr1 e0 (by
    have z := hb s [.ref a, u] I.kIn (by simpa using len)
    simpa using z) r2 sp) fun r s' hq => ?_)
  match r, hq with
  | .error e, hq => exact pass0 (X := X) pins σ H s e s' I hq
  | .ok (.ret w), hq =>
    obtain ⟨z, H', I', rz, ez, ex⟩ := I.after hq
    subst ez
    cases rz
    exact ⟨b, rfl, .bl (!b), H', I', rfl, q H' ex⟩
end
end G1

set_option maxHeartbeats 4000000
namespace G1
open PySem PySem.Spec PyProof.Rows L2
theorem all_range_eq {α : Type} [DecidableEq α] {xs ys : List α} (l : xs.length = ys.length) : ((List.range xs.length).all fun i => decide (xs[i]? = ys[i]?)) = decide (xs = ys) := by
  by_cases h : xs = ys
  · subst h
    rw [decide_eq_true rfl]
    exact List.all_eq_true.mpr fun i _ => decide_eq_true rfl
  · rw [decide_eq_false h, Bool.eq_false_iff]
    intro q
    refine h (List.ext_getElem? fun i => ?_)
    by_cases lt : i < xs.length
    · exact of_decide_eq_true (List.all_eq_true.mp q i (List.mem_range.mpr lt))
    · rw [List.getElem?_eq_none (by omega), List.getElem?_eq_none (by omega)]
/-- lists of texts -/
theorem lists_strs {K : PySem.W.Frag} {H : Hp} {a c : Addr} {xs ys : List Str} (ha : SqL K H a (xs.map V.str)) (hc : SqL K H c (ys.map V.str)) : Lists2 K H 0 (.ref a) (.ref c) (decide (xs = ys)) := by
  refine ⟨a, c, _, _, rfl, rfl, ha, hc, ?_⟩
  by_cases l : xs.length = ys.length
  · refine .inr ⟨by rw [List.length_map, List.length_map, l], fun i => decide (xs[i]? = ys[i]?), fun i x y hx hy => ?_, by rw [List.length_map, all_range_eq l]⟩
    rw [List.getElem?_map] at hx hy
    obtain ⟨z, hz, rfl⟩ := Option.map_eq_some_iff.mp hx
    obtain ⟨z2, hz2, rfl⟩ := Option.map_eq_some_iff.mp hy
    have e : eqV (.str z) (.str z2) = decide (xs[i]? = ys[i]?) := by
      rw [hz, hz2]
      show (z == z2) = _
      by_cases q : z = z2
      · simp [q]
      · rw [beq_eq_false_iff_ne.mpr q, decide_eq_false (fun w => q (Option.some.inj w))]
    show EqW K H 0 (.str z) (.str z2) (decide (xs[i]? = ys[i]?))
    rw [← e]
    exact .flat rfl rfl
  · exact .inl ⟨by rw [List.length_map, List.length_map]; exact l, decide_eq_false fun e => l (by rw [e])⟩
end G1

set_option maxHeartbeats 8000000
namespace K08
open PySem PySem.Spec PyProof.Rows L2 G1
/-- what may stand in a row: a text, or something that is none -/
inductive RIt (K : PySem.W.Frag) (H : Hp) : V → Option Str → Prop
  | str (z : Str) : RIt K H (.str z) (some z)
  | non : RIt K H .non none
  | bl (b : Bool) : RIt K H (.bl b) none
  | int (i : Int) : RIt K H (.int i) none
  | lst {a : Addr} {ys : List V} : H a = some (.lst ys) → RIt K H (.ref a) none
  | tup {a : Addr} {ys : List V} : H a = some (.tup ys) → RIt K H (.ref a) none
  | dK {a : Addr} {kvs : List (Key × V)} : H a = some (.dK kvs) → RIt K H (.ref a) none
theorem RIt.same {K : PySem.W.Frag} {H H' : Hp} {v : V} {o : Option Str} (h : RIt K H v o) (s : Same H H') : RIt K H' v o := by
  cases h with
  | str z => exact .str z
  | non => exact .non
  | bl b => exact .bl b
  | int i => exact .int i
  | lst e => exact .lst (s _ _ e)
  | tup e => exact .tup (s _ _ e)
  | dK e => exact .dK (s _ _ e)
theorem RIt.ty {K : PySem.W.Frag} {H : Hp} {v : V} {o : Option Str} (h : RIt K H v o) : ∃ T : String, TyX K H v (.type T) ∧ kitB T "str" = some o.isSome := by
  cases h with
  | str z => exact ⟨"str", .base (.str z), show kitB "str" "str" = some true by decide +kernel⟩
  | non => exact ⟨"NoneType", .base .non, by decide +kernel⟩
  | bl b => exact ⟨"bool", .base (.bl b), by decide +kernel⟩
  | int i => exact ⟨"int", .base (.int i), by decide +kernel⟩
  | lst e => exact ⟨"list", .base (.lst e), by decide +kernel⟩
  | tup e => exact ⟨"tuple", .base (.tup e), by decide +kernel⟩
  | dK e => exact ⟨"dict", .base (.dK e), by decide +kernel⟩
inductive RItL (K : PySem.W.Frag) (H : Hp) : List V → List (Option Str) → Prop
  | nil : RItL K H [] []
  | cons {v : V} {o : Option Str} {vs : List V} {os : List (Option Str)} : RIt K H v o → RItL K H vs os → RItL K H (v :: vs) (o :: os)
theorem RItL.len {K : PySem.W.Frag} {H : Hp} {vs : List V} {os : List (Option Str)} (h : RItL K H vs os) : vs.length = os.length := by
  induction h with
  | nil => rfl
  | cons _ _ ih => rw [List.length_cons, List.length_cons, ih]
theorem RItL.same {K : PySem.W.Frag} {H H' : Hp} {vs : List V} {os : List (Option Str)} (h : RItL K H vs os) (s : Same H H') : RItL K H' vs os := by
  induction h with
  | nil => exact .nil
  | cons e _ ih => exact .cons (e.same s) ih
theorem RItL.at {K : PySem.W.Frag} {H : Hp} {vs : List V} {os : List (Option Str)} (h : RItL K H vs os) : ∀ {i : Nat} {v : V}, vs[i]? = some v → ∃ o, os[i]? = some o ∧ RIt K H v o := by
  induction h with
  | nil => intro i v e; cases e
  | @cons v0 o0 vs os h0 _ ih =>
    intro i v e
    match i, e with
    | 0, e =>
      cases e
      exact ⟨o0, rfl, h0⟩
    | i + 1, e => exact ih e
theorem RItL.strs {K : PySem.W.Frag} {H : Hp} {vs : List V} {os : List (Option Str)} (h : RItL K H vs os) (a : os.all Option.isSome = true) : ∃ zs : List Str, vs = zs.map V.str := by
  induction h with
  | nil => exact ⟨[], rfl⟩
  | cons h0 _ ih =>
    rw [List.all_cons] at a
    obtain ⟨a1, a2⟩ := He.ba a
    obtain ⟨zs, rfl⟩ := ih a2
    cases h0 with
    | str z => exact ⟨z :: zs, rfl⟩
    | _ => cases a1
theorem RItL.all_in {K : PySem.W.Frag} {H : Hp} {zs : List Str} {os : List (Option Str)} (h : RItL K H (zs.map V.str) os) : os.all Option.isSome = true := by
  induction zs generalizing os with
  | nil => cases h; rfl
  | cons z zs ih =>
    cases h with
    | cons h0 ht =>
      cases h0
      rw [List.all_cons, ih ht]
      rfl
/-- a row, or something that is none; whether it is one of xs -/
inductive RowV (K : PySem.W.Frag) (H : Hp) (xs : List Str) : V → Bool → Prop
  | no {v : V} {T : String} : TyX K H v (.type T) → kitB T "list" = some false → RowV K H xs v false
  | lst {a : Addr} {vs : List V} {os : List (Option Str)} {b : Bool} : H a = some (.lst vs) → vs.length ≤ 60 → RItL K H vs os → (b = true ↔ ∃ zs : List Str, vs = zs.map V.str ∧ zs.Perm xs) → RowV K H xs (.ref a) b
theorem RowV.same {K : PySem.W.Frag} {H H' : Hp} {xs : List Str} {v : V} {b : Bool} (h : RowV K H xs v b) (s : Same H H') : RowV K H' xs v b := by
  cases h with
  | no t n => exact .no (TyX.same t s) n
  | lst h1 h2 h3 h4 => exact .lst (s _ _ h1) h2 (h3.same s) h4
def spIsRow (K : PySem.W.Frag) : Sp := fun vs H Q _ => ∃ (n : Addr) (xs : List Str) (v : V) (b : Bool), vs = [.ref n, v] ∧ SqL K H n (xs.map V.str) ∧ sortedS xs = true ∧ RowV K H xs v b ∧ ∀ H', Same H H' → Q (.bl b) H'
section
variable {P : Program} {w : World} {K : PySem.W.Frag} {mg : Str → Option Value} {base : Heap}
abbrev sIsRow : Stmt := top 19
theorem scIsRow : FnScope ["entries", "value", "name"] ["entries", "value"] (defScope sIsRow) := ⟨rfl, rfl, rfl, by decide +kernel, rfl, by decide +kernel, by decide +kernel⟩
theorem ok_isRow {f : Addr} {fd : FuncData} (F : FnP K "is_row" sIsRow f fd) (L : Lib K mg) (LP : LibP mg) : FnOk P w K mg base CX0 1 f fd ["entries", "value"] (spIsRow K) := by
  refine okN F scIsRow (fun vs H Q E h => ?_) (fun cdv A outer s H vs Q E hr h => ?_)
  · obtain ⟨_, _, _, _, rfl, _⟩ := h
    rfl
  · obtain ⟨n, xs, v, b, rfl, hn, so, hv, k⟩ := h
    have hu := hr.units
    have hu1 : (A.deeper (envOfC "is_row" (defScope sIsRow) s.heap.objs.size f cdv)).units + (0 + 1) < cLine := by omega
    refine ⟨_, pss_cons (ps_if (PW.pt (pw_or (pt_not (pt_val (pe_callB call_isi (by rfl) LP.isi (by decide +kernel) (pa_cons (pv 1) (pa_cons (pe_bltn (v := .ty "list") (by rfl) LP.list (by decide +kernel) rfl) pa_nil)))))
        (pw_or1 (pt_not (pt_val (pe_callB (cr_all rfl) (by rfl) LP.all (by decide +kernel) (pa_cons
          (pe_lc (own := [("name", 2)]) (g := gName 2) (tt := tYes) (te := tCB (rIsi K) (tCons (tVar 2) (tCons (tC (.ty "str")) tNil))) rfl scIsRow.nd (pi_list (pv 1))
            (blkOk_by (N := ["entries", "value", "name"]) (sc := defScope sIsRow) (by decide +kernel)) (fun _ _ _ _ _ => pg_name (i := 2) scIsRow.nd rfl (Or.inl rfl)) (fun _ _ _ _ _ => pts_nil)
            (fun _ _ _ _ _ => pe_callB call_isi (by rfl) LP.isi (by decide +kernel) (pa_cons (pv 2) (pa_cons (pe_bltn (v := .ty "str") (by rfl) LP.str (by decide +kernel) rfl) pa_nil)))) pa_nil))))))) (pss_one (ps_ret pe_bl)) pss_nil)
      (pss_one (ps_ret (pe_cmpR (op_eqW (n := 0) hu1) (pe_callB cr_sortedS (by rfl) LP.sorted (by decide +kernel) (pa_cons (pv 1) pa_nil)) (pv 0) (nomark _)))), ?_⟩
    cases hv with
    | @no _ T ty nk =>
      refine ⟨_, rfl, v, .ty "list", .type T, .type "list", false, rfl, .ty _, ty, kit_ty nk, false, rfl, ?_⟩
      exact k H (Same.refl H)
    | @lst a vs os b hH hl ho hb =>
      refine ⟨_, rfl, .ref a, .ty "list", .type "list", .type "list", true, rfl, .ty _, .base (.lst hH), kit_ty (by decide +kernel), true, rfl, ?_⟩
      refine ⟨_, rfl, a, rfl, ⟨_, SqL.of hH⟩, fun D hD => lc_list (K := K) (a := a) (xs := vs) (fun i H' => H' D = some (.lst (((os.map Option.isSome).take i).map V.bl)) ∧ Same H H') ⟨upd_same, sn hD⟩ (fun i H' _ h => SqL.of (h.2 _ _ hH)) ?_ ?_⟩
      · rintro i y H' hi ⟨q1, q2⟩
        obtain ⟨o, ho1, r⟩ := ho.at hi
        obtain ⟨T, ty1, kb1⟩ := (r.same q2).ty
        refine ⟨rfl, _, rfl, y, .ty "str", .type T, .type "str", o.isSome, rfl, .ty _, ty1, kit_ty kb1, _, q1, ?_, ?_, fun c o' e => ?_⟩
        · refine small1000 ?_
          rw [List.length_map]
          have := List.length_take_le' i (os.map Option.isSome)
          rw [List.length_map] at this
          have := ho.len
          omega
        · have e2 : (os.map Option.isSome)[i]? = some o.isSome := by rw [List.getElem?_map, ho1]; rfl
          rw [upd_same, List.take_succ, e2, List.map_append]
          rfl
        · rw [upd_ne (ne_of_none e hD)]
          exact q2 _ _ e
      · rintro H' ⟨q1, q2⟩
        rw [ho.len, List.take_of_length_le (by rw [List.length_map]; exact Nat.le_refl _)] at q1
        refine ⟨D, os.map Option.isSome, rfl, SqL.of q1, _, rfl, ?_⟩
        have e0 : (os.map Option.isSome).all id = os.all Option.isSome := by rw [List.all_map]; rfl
        rw [e0]
        cases hall : os.all Option.isSome with
        | false =>
          have bf : b = false := by
            rw [Bool.eq_false_iff]
            intro bt
            obtain ⟨zs, rfl, p⟩ := hb.mp bt
            rw [ho.all_in] at hall
            cases hall
          rw [bf] at k
          exact k H' q2
        | true =>
          obtain ⟨zs, rfl⟩ := ho.strs hall
          rw [List.length_map] at hl
          refine ⟨_, rfl, a, zs, rfl, SqL.of (q2 _ _ hH), by omega, fun ys D2 p2 so2 n2 => ?_⟩
          have s3 : Same H' (upd H' D2 (.lst (ys.map V.str))) := sn n2
          refine ⟨_, rfl, _, lists_strs (SqL.of upd_same) ((q2.trans s3).seq hn), ?_⟩
          have e : decide (ys = xs) = b := by
            cases hbb : b with
            | true =>
              obtain ⟨zs2, e3, p3⟩ := hb.mp hbb
              rw [map_str_inj e3] at p2
              exact decide_eq_true (sorted_uniq so2 so (p2.trans p3))
            | false =>
              refine decide_eq_false fun e3 => ?_
              rw [hb.mpr ⟨zs, rfl, (e3 ▸ p2).symm⟩] at hbb
              cases hbb
          rw [e]
          exact k _ (q2.trans s3)
end
end K08

set_option maxHeartbeats 8000000
namespace K08
open PySem PySem.Spec PyProof.Rows L2 G1
abbrev ga (K : PySem.W.Frag) (x : Str) : Addr := He.ga K x
def iPs : List Str := ["self", "value"]
/-- an error's class and its __init__ -/
structure ErrC (P : Program) (w : World) (K : PySem.W.Frag) (mg : Str → Option Value) (base : Heap) (x : Str) : Prop where
  ex : ∃ (fI : Addr) (fd : FuncData), EC K (ga K x) fI ∧ FnOk P w K mg base CX0 1 fI fd iPs (spE (ga K x)) ∧ Binds K fd iPs []
  gl : mg x = some (.ref (ga K x))
/-- raise x(e): what is asked -/
def tRaise (C : Addr) (W : WX) (te : TE) : TS := fun _ σ H => te σ H fun v H1 => ∀ (d : Addr) (H' : Hp), Same H1 H' → H1 d = none → H' d = some (.xd [("value", v)]) → W (.ref C) (some d) σ H'
/-- the way on may be made weaker -/
def tClo (te : TE) : TE := fun σ H Q => ∃ Q0 : VK, te σ H Q0 ∧ ∀ v H1, Q0 v H1 → Q v H1
theorem pe_clo {X : Cx} {e : Expr} {te : TE} (he : PE X e te) : PE X e (tClo te) :=
  ⟨fun pins s σ H Q I h => by
    obtain ⟨Q0, h0, k⟩ := h
    exact thn (he.run pins s σ H Q0 I h0) fun u s1 z => by
      obtain ⟨v, H1, I1, r, q⟩ := z
      exact ⟨v, H1, I1, r, k v H1 q⟩⟩
theorem ps_raiseV {X : Cx} {W : WX} {x : Str} {e : Expr} {te : TE} {p pos pos2 : Pos} (hc : X.calm = true) (R : ErrC X.prog X.w X.K X.mg X.base x) (hr : Room 2 X.A) (tk : Takes X W) (hg : Gl X x) (he : PE X e te)
    (hdb : (x == ("__debug__" : Str)) = false := by decide) (h1 : starEach (e :: []) X.env = (false, eval e X.env) :: starEach [] X.env := by rfl) (hpl : (backTo pos (starEach [] X.env)).any (·.1) = false := by rfl) :
    PS X (.Raise (some (.Call (.Name x p) [e] [] pos)) none pos2) (tRaise (ga X.K x) W te) := by
  obtain ⟨fI, fd, E, F, b⟩ := R.ex
  have q := ps_raise (W := W) (pos := pos2) hc tk (pmk_oex (p := p) (pos := pos) E.t E.iC E.tI F hr b .nil pass0 hg R.gl (pa_cons (pe_clo he) pa_nil h1) hdb h1 hpl)
  refine ⟨fun pins s σ H D I h => q.run pins s σ H D I ⟨_, h, fun v H1 k => ⟨(by decide : 1 ≤ 1000), fun a na => ?_⟩⟩⟩
  refine ⟨a, v, rfl, upd_same, fun d nd nda => ⟨rfl, d, [("value", v)], upd_same, ?_, ?_, ?_⟩⟩
  · rw [upd_ne nda]
    exact upd_same
  · rw [upd_ne nda] at nd
    exact nd
  · refine k d _ (fun c o e => ?_) ?_ upd_same
    · have nca : c ≠ a := ne_of_none e na
      have ncd : c ≠ d := fun z => by
        rw [z] at e
        rw [upd_ne nda, e] at nd
        cases nd
      rw [upd_ne ncd, del_ne nca, upd_ne nca, upd_ne ncd, upd_ne nca]
      exact e
    · rw [upd_ne nda] at nd
      exact nd
def spChkE (K : PySem.W.Frag) : Sp := fun vs H Q E => ∃ (v : V) (b : Bool), vs = [v] ∧ Unl K H v b ∧ (b = true → ∀ H', Same H H' → Q .non H') ∧
  (b = false → ∀ (d : Addr) (H' : Hp), Same H H' → H d = none → H' d = some (.xd [("value", v)]) → E (.ref (ga K "InvalidEntries")) (some d) H')
section
variable {P : Program} {w : World} {K : PySem.W.Frag} {mg : Str → Option Value} {base : Heap}
abbrev sChkE : Stmt := top 21
theorem scChkE : FnScope ["entries"] ["entries"] (defScope sChkE) := ⟨rfl, rfl, rfl, by decide +kernel, rfl, by decide +kernel, by decide +kernel⟩
theorem ok_chkE {f fU : Addr} {fd fdU : FuncData} (F : FnP K "check_entries" sChkE f fd) (R : ErrC P w K mg base "InvalidEntries") (FU : FnP K "are_unlike_names" sUnlike fU fdU) (gU : mg "are_unlike_names" = some (.ref fU))
    (GU : FnOk P w K mg base CX0 2 fU fdU ["value"] (spUnlike K)) : FnOk P w K mg base (L2.CX P w) 3 f fd ["entries"] (spChkE K) := by
  have bU : Binds K fdU ["value"] [] := FU.bindsN fun _ _ _ _ _ _ us hl => match us, hl with | [_], _ => rfl
  refine F.ok scChkE (fun vs H Q E h => ?_) (fun cdv A outer s H vs Q E hr h => ?_)
  · obtain ⟨_, _, rfl, _⟩ := h
    rfl
  · obtain ⟨v, b, rfl, hv, k1, k2⟩ := h
    refine ⟨_, pss_one (ps_if (pt_not (pt_val (pe_call GU hr (by rfl) gU FU.kp bU .nil pass0 (pa_cons (pv 0) pa_nil)))) (pss_one (ps_raiseV rfl R hr (takes_of rfl rfl rfl rfl) (by rfl) (pv 0))) pss_nil), ?_⟩
    refine ⟨_, rfl, v, b, rfl, hv, fun H1 s1 => ⟨_, rfl, ?_⟩⟩
    cases b with
    | true => exact k1 rfl H1 s1
    | false => exact ⟨_, rfl, fun d H' s2 nd hd => k2 rfl d H' (s1.trans s2) (s1.free nd) hd⟩
end
end K08

set_option maxHeartbeats 8000000
namespace K08
open PySem PySem.Spec PyProof.Rows L2 G1
inductive RowVL (K : PySem.W.Frag) (H : Hp) (xs : List Str) : List V → List Bool → Prop
  | nil : RowVL K H xs [] []
  | cons {v : V} {b : Bool} {vs : List V} {bs : List Bool} : RowV K H xs v b → RowVL K H xs vs bs → RowVL K H xs (v :: vs) (b :: bs)
theorem RowVL.len {K : PySem.W.Frag} {H : Hp} {xs : List Str} {vs : List V} {bs : List Bool} (h : RowVL K H xs vs bs) : vs.length = bs.length := by
  induction h with
  | nil => rfl
  | cons _ _ ih => rw [List.length_cons, List.length_cons, ih]
theorem RowVL.same {K : PySem.W.Frag} {H H' : Hp} {xs : List Str} {vs : List V} {bs : List Bool} (h : RowVL K H xs vs bs) (s : Same H H') : RowVL K H' xs vs bs := by
  induction h with
  | nil => exact .nil
  | cons e _ ih => exact .cons (e.same s) ih
theorem RowVL.at {K : PySem.W.Frag} {H : Hp} {xs : List Str} {vs : List V} {bs : List Bool} (h : RowVL K H xs vs bs) : ∀ {i : Nat} {v : V}, vs[i]? = some v → ∃ b, bs[i]? = some b ∧ RowV K H xs v b := by
  induction h with
  | nil => intro i v e; cases e
  | @cons v0 b0 vs bs h0 _ ih =>
    intro i v e
    match i, e with
    | 0, e =>
      cases e
      exact ⟨b0, rfl, h0⟩
    | i + 1, e => exact ih e
/-- a list of rows of xs, or something that is none -/
inductive RowsV (K : PySem.W.Frag) (H : Hp) (xs : List Str) : V → Bool → Prop
  | no {v : V} {T : String} : TyX K H v (.type T) → kitB T "list" = some false → RowsV K H xs v false
  | lst {a : Addr} {vs : List V} {bs : List Bool} : H a = some (.lst vs) → vs.length ≤ 60 → RowVL K H xs vs bs → RowsV K H xs (.ref a) (!vs.isEmpty && bs.all id)
theorem RowsV.same {K : PySem.W.Frag} {H H' : Hp} {xs : List Str} {v : V} {b : Bool} (h : RowsV K H xs v b) (s : Same H H') : RowsV K H' xs v b := by
  cases h with
  | no t n => exact .no (TyX.same t s) n
  | lst h1 h2 h3 => exact .lst (s _ _ h1) h2 (h3.same s)
def spChkR (K : PySem.W.Frag) : Sp := fun vs H Q E => ∃ (n : Addr) (xs : List Str) (v : V) (b : Bool), vs = [.ref n, v] ∧ SqL K H n (xs.map V.str) ∧ sortedS xs = true ∧ RowsV K H xs v b ∧ (b = true → ∀ H', Same H H' → Q .non H') ∧
  (b = false → ∀ (d : Addr) (H' : Hp), Same H H' → H d = none → H' d = some (.xd [("value", v)]) → E (.ref (ga K "InvalidRows")) (some d) H')
/-- whether all are rows -/
def spAreR (K : PySem.W.Frag) : Sp := fun vs H Q _ => ∃ (n : Addr) (xs : List Str) (v : V) (b : Bool), vs = [.ref n, v] ∧ SqL K H n (xs.map V.str) ∧ sortedS xs = true ∧ RowsV K H xs v b ∧
  ∀ (r : Bool) (H' : Hp), Same H H' → (r = false → b = false) → (r = true → ∃ (a : Addr) (vs : List V), v = .ref a ∧ H a = some (.lst vs) ∧ b = !vs.isEmpty) → Q (.bl r) H'
section
variable {P : Program} {w : World} {K : PySem.W.Frag} {mg : Str → Option Value} {base : Heap}
abbrev sAreR : Stmt := top 20
theorem scAreR : FnScope ["entries", "value", "row"] ["entries", "value"] (defScope sAreR) := ⟨rfl, rfl, rfl, by decide +kernel, rfl, by decide +kernel, by decide +kernel⟩
theorem ok_areR {f fR : Addr} {fd fdR : FuncData} (F : FnP K "are_rows" sAreR f fd) (L : Lib K mg) (LP : LibP mg) (FR : FnP K "is_row" sIsRow fR fdR) (gR : mg "is_row" = some (.ref fR))
    (GR : FnOk P w K mg base CX0 1 fR fdR ["entries", "value"] (spIsRow K)) : FnOk P w K mg base CX0 2 f fd ["entries", "value"] (spAreR K) := by
  have bR : Binds K fdR ["entries", "value"] [] := FR.bindsN fun _ _ _ _ _ _ us hl => match us, hl with | [_, _], _ => rfl
  refine okN F scAreR (fun vs H Q E h => ?_) (fun cdv A outer s H vs Q E hr h => ?_)
  · obtain ⟨_, _, _, _, rfl, _⟩ := h
    rfl
  · obtain ⟨n, xs, v, b, rfl, hn, so, hv, k⟩ := h
    refine ⟨_, pss_one (ps_ret (pe_and (pe_callB call_isi (by rfl) LP.isi (by decide +kernel) (pa_cons (pv 1) (pa_cons (pe_bltn (v := .ty "list") (by rfl) LP.list (by decide +kernel) rfl) pa_nil)))
        (pe_one (pe_callB (cr_all rfl) (by rfl) LP.all (by decide +kernel) (pa_cons
          (pe_lc (own := [("row", 2)]) (g := gName 2) (tt := tYes) (te := tCall (spIsRow K) [] E0 (tCons (tVar 0) (tCons (tVar 2) tNil))) rfl scAreR.nd (pi_list (pv 1))
            (blkOk_by (N := ["entries", "value", "row"]) (sc := defScope sAreR) (by decide +kernel)) (fun _ _ _ _ _ => pg_name (i := 2) scAreR.nd rfl (Or.inl rfl)) (fun _ _ _ _ _ => pts_nil)
            (fun _ _ _ _ _ => pe_call GR hr (by rfl) gR FR.kp bR .nil pass0 (pa_cons (pv 0) (pa_cons (pv 2) pa_nil)))) pa_nil))))), ?_⟩
    cases hv with
    | @no _ T ty nk =>
      refine ⟨_, rfl, v, .ty "list", .type T, .type "list", false, rfl, .ty _, ty, kit_ty nk, false, rfl, iteF ?_⟩
      exact k false H (Same.refl H) (fun _ => rfl) fun q => nomatch q
    | @lst a vs bs hH hl hb =>
      refine ⟨_, rfl, .ref a, .ty "list", .type "list", .type "list", true, rfl, .ty _, .base (.lst hH), kit_ty (by decide +kernel), true, rfl, iteT ?_⟩
      refine ⟨_, rfl, a, rfl, ⟨_, SqL.of hH⟩, fun D hD => lc_list (K := K) (a := a) (xs := vs) (fun i H' => H' D = some (.lst ((bs.take i).map V.bl)) ∧ Same H H') ⟨upd_same, sn hD⟩ (fun i H' _ h => SqL.of (h.2 _ _ hH)) ?_ ?_⟩
      · rintro i y H' hi ⟨q1, q2⟩
        obtain ⟨b1, hb1, nb⟩ := hb.at hi
        refine ⟨rfl, _, rfl, _, rfl, n, xs, y, b1, rfl, q2.seq hn, so, nb.same q2, fun H2 s2 => ⟨_, s2 _ _ q1, ?_, ?_, fun c o e => ?_⟩⟩
        · refine small1000 ?_
          rw [List.length_map]
          have := List.length_take_le' i bs
          have := hb.len
          omega
        · rw [upd_same, List.take_succ, hb1, List.map_append]
          rfl
        · rw [upd_ne (ne_of_none e hD)]
          exact s2 _ _ (q2 _ _ e)
      · rintro H' ⟨q1, q2⟩
        rw [hb.len, List.take_length] at q1
        refine ⟨D, bs, rfl, SqL.of q1, ?_⟩
        refine k _ H' q2 (fun q => ?_) (fun q => ⟨a, vs, rfl, hH, ?_⟩)
        · rw [q, Bool.and_false]
        · rw [q, Bool.and_true]
abbrev sChkR : Stmt := top 23
theorem scChkR : FnScope ["entries", "rows"] ["entries", "rows"] (defScope sChkR) := ⟨rfl, rfl, rfl, by decide +kernel, rfl, by decide +kernel, by decide +kernel⟩
theorem ok_chkR {f fA : Addr} {fd fdA : FuncData} (F : FnP K "check_rows" sChkR f fd) (R : ErrC P w K mg base "InvalidRows") (FA : FnP K "are_rows" sAreR fA fdA) (gA : mg "are_rows" = some (.ref fA))
    (GA : FnOk P w K mg base CX0 2 fA fdA ["entries", "value"] (spAreR K)) : FnOk P w K mg base (L2.CX P w) 3 f fd ["entries", "rows"] (spChkR K) := by
  have bA : Binds K fdA ["entries", "value"] [] := FA.bindsN fun _ _ _ _ _ _ us hl => match us, hl with | [_, _], _ => rfl
  refine F.ok scChkR (fun vs H Q E h => ?_) (fun cdv A outer s H vs Q E hr h => ?_)
  · obtain ⟨_, _, _, _, rfl, _⟩ := h
    rfl
  · obtain ⟨n, xs, v, b, rfl, hn, so, hv, k1, k2⟩ := h
    refine ⟨_, pss_one (ps_if (PW.pt (pw_or (pt_not (pt_val (pe_call GA hr (by rfl) gA FA.kp bA .nil pass0 (pa_cons (pv 0) (pa_cons (pv 1) pa_nil)))))
        (pw_or1 (pt_not (pt_truth (pv 1) (by intro _; rfl)))))) (pss_one (ps_raiseV rfl R hr (takes_of rfl rfl rfl rfl) (by rfl) (pv 1))) pss_nil), ?_⟩
    refine ⟨_, rfl, _, rfl, n, xs, v, b, rfl, hn, so, hv, fun r H1 s1 rf rt => ?_⟩
    cases r with
    | false => exact ⟨_, rfl, _, rfl, fun d H' s2 nd hd => k2 (rf rfl) d H' (s1.trans s2) (s1.free nd) hd⟩
    | true =>
      obtain ⟨a, vs, rfl, hH, eb⟩ := rt rfl
      refine ⟨_, rfl, _, rfl, !vs.isEmpty, .inl ⟨vs, SqL.of (s1 _ _ hH), rfl⟩, ?_⟩
      cases vs with
      | nil => exact ⟨_, rfl, fun d H' s2 nd hd => k2 eb d H' (s1.trans s2) (s1.free nd) hd⟩
      | cons x0 xs0 => exact k1 eb H1 s1
end
end K08

set_option maxHeartbeats 4000000
namespace G1
open PySem PySem.Spec PyProof.Rows L2
section
variable {X : Cx} {CX : CXT} {k : Nat} {C f : Addr} {fd : FuncData} {ps : List Str} {sp : Sp} {E : L2.St → XK} {x : Str} {p pos : Pos} {e : Expr} {es : List Expr} {t : TA}
/-- C(e, ..) whose __init__ may raise into a suite here -/
def tMakeS (C : Addr) (sp : Sp) (E : L2.St → XK) (t : TA) : TE := fun σ H Q => t σ H fun vs H1 => ∀ a dx, H1 a = none → H1 dx = none → dx ≠ a → sp (.ref a :: vs) (upd (upd H1 dx (.own a)) a (.ins C dx [])) (fun v H2 => v = .non ∧ Q (.ref a) H2) (E σ)
theorem pe_makeS (M : Mk X.K C f) (F : FnOk X.prog X.w X.K X.mg X.base CX k f fd ps sp) (hr : Room (k + 1) X.A) (hg : Gl X x) (hm : X.mg x = some (.ref C)) (hb : Binds X.K fd ps []) (hx : ∀ σ, PassesAt CX X σ (E σ))
    (ha : PA X (e :: es) t) (hdb : (x == ("__debug__" : Str)) = false := by decide) (he : starEach (e :: es) X.env = (false, eval e X.env) :: starEach es X.env := by rfl) (hpl : (backTo pos (starEach es X.env)).any (·.1) = false := by rfl) :
    PE X (.Call (.Name x p) (e :: es) [] pos) (tMakeS C sp E t) := by
  refine ⟨fun pins s0 σ H0 Q I0 h => wpAny_Call_Name_kw (ld_glob I0 hg hm ?_ hdb)⟩
  refine PySem.W.callWith_K (h₀ := X.base) I0.ok.mod.kin M.kp (thn (ha.run pos pins s0 σ H0 _ I0 h) fun us s ⟨vs, H, I, r, q⟩ => ⟨I.kIn, ?_⟩) he hpl
  have q1 := q (s.heap.objs.size + 1) s.heap.objs.size (I.hok.fresh (Nat.le_succ _)) (I.hok.fresh (Nat.le_refl _)) (Nat.ne_of_lt (Nat.lt_succ_self _))
  have J := Inv.made (C := C) I
  have r1 : Vals (V.ref (s.heap.objs.size + 1) :: vs) (Value.ref (s.heap.objs.size + 1) :: us) := .cons rfl r
  have len : (Value.ref (s.heap.objs.size + 1) :: us).length = ps.length := r1.length.symm.trans (F.len _ _ _ _ q1)
  have b := hb _ (Value.ref (s.heap.objs.size + 1) :: us) J.kIn (by rw [List.append_nil]; exact len)
  rw [List.append_nil] at b
  refine wpAny_call (make_map (f := f) I.kIn M.makes M.init (beq_iff_eq.mp M.fn) (codeAny_mono (F.run _ X.stack _ _ ⟨Value.ref (s.heap.objs.size + 1) :: us, []⟩ (Value.ref (s.heap.objs.size + 1) :: us) _ _ (E σ) (hr.make C us []) (J.env0.make C us []) b r1 q1) fun res s' z => ?_))
  match res, z with
  | .error u, z => exact hx σ pins _ _ u s' J z
  | .ok (.ret u), z =>
    obtain ⟨v, H', I', rv, ev, q3⟩ := J.after z
    subst ev
    exact ⟨rv, ⟨.ref (s.heap.objs.size + 1), H', I', rfl, q3⟩⟩
end
end G1

set_option maxHeartbeats 8000000
namespace K08
open PySem PySem.Spec PyProof.Rows L2 G1
def methS (j : Nat) : Stmt := match top 28 with
  | .ClassDef _ _ _ body .. => body.getD j (.Pass ⟨0, 0, 0, 0⟩)
  | s => s
abbrev FnM (K : PySem.W.Frag) (x q : Str) (st : Stmt) (f : Addr) (fd : FuncData) : Prop := FunD K x q (defArgs st) (defBody st) (defScope st) [] [] f fd
/-- the class Panel -/
structure PanC (K : PySem.W.Frag) (C : Addr) : Prop where
  cls : Cls K C
  nE : NoAttr K C "_entries"
  nR : NoAttr K C "_rows"
theorem RowsAt.at {H : Hp} {as : List Addr} {rs : List (List Str)} (h : RowsAt H as rs) : ∀ {i : Nat} {c : Addr}, as[i]? = some c → ∃ ws, rs[i]? = some ws ∧ H c = some (.lst (ws.map V.str)) := by
  induction h with
  | nil => intro i c e; cases e
  | @cons a0 r0 as rs h0 _ ih =>
    intro i c e
    match i, e with
    | 0, e =>
      cases e
      exact ⟨r0, rfl, h0⟩
    | i + 1, e => exact ih e
theorem rows_of_all {K : PySem.W.Frag} {H : Hp} {xs : List Str} {vs : List V} {bs : List Bool} (h : RowVL K H xs vs bs) (a : bs.all id = true) : ∃ (as : List Addr) (rs : List (List Str)), vs = as.map V.ref ∧ RowsAt H as rs ∧ ∀ r ∈ rs, r.Perm xs := by
  induction h with
  | nil => exact ⟨[], [], rfl, .nil, fun r hr => nomatch hr⟩
  | cons h0 _ ih =>
    rw [List.all_cons] at a
    obtain ⟨a1, a2⟩ := He.ba a
    obtain ⟨as, rs, rfl, h1, h2⟩ := ih a2
    cases h0 with
    | no _ _ => cases a1
    | @lst c ws os b e1 e2 e3 e4 =>
      obtain ⟨zs, rfl, p⟩ := e4.mp a1
      exact ⟨c :: as, zs :: rs, rfl, .cons e1 h1, fun r hr => by
        rcases List.mem_cons.mp hr with rfl | hr
        · exact p
        · exact h2 r hr⟩
def spInit (K : PySem.W.Frag) (C : Addr) : Sp := fun vs H Q E => ∃ (a dx : Addr) (ve vr : V) (b : Bool), vs = [.ref a, ve, vr] ∧ H a = some (.ins C dx []) ∧ Unl K H ve b ∧
  (b = false → ∀ (d : Addr) (H' : Hp), Same H H' → H d = none → H' d = some (.xd [("value", ve)]) → E (.ref (ga K "InvalidEntries")) (some d) H') ∧
  (b = true → ∃ (e : Addr) (zs : List Str), ve = .ref e ∧ SqL K H e (zs.map V.str) ∧ zs.length < 64 ∧ ∀ xs : List Str, xs.Perm zs → sortedS xs = true → ∃ b2, RowsV K H xs vr b2 ∧
    (b2 = false → ∀ (d : Addr) (H' : Hp), Same H H' → H d = none → H' d = some (.xd [("value", vr)]) → E (.ref (ga K "InvalidRows")) (some d) H') ∧
    (b2 = true → ∀ (r : Addr) (as : List Addr) (rs : List (List Str)), vr = .ref r → H r = some (.lst (as.map V.ref)) → RowsAt H as rs → (∀ y ∈ rs, y.Perm xs) →
      ∀ (fs : List (Str × V)) (N R : Addr) (cs : List Addr) (H' : Hp), H' a = some (.ins C dx fs) → fs.lookup ("_entries" : Str) = some (V.ref N) → fs.lookup ("_rows" : Str) = some (V.ref R) → H' N = some (.lst (xs.map V.str)) → H' R = some (.lst (cs.map V.ref)) → RowsAt H' cs rs →
        H N = none → H R = none → (∀ c ∈ cs, H c = none) → fs.lookup ("entries" : Str) = none → (fs.lookup ("rows" : Str) = none ∧ fs.lookup ("struck" : Str) = none ∧ fs.lookup ("with_row" : Str) = none ∧ fs.lookup ("without_row" : Str) = none ∧ fs.lookup ("renamed" : Str) = none) → But a H H' → Q .non H'))
section
variable {P : Program} {w : World} {K : PySem.W.Frag} {mg : Str → Option Value} {base : Heap}
abbrev sInit : Stmt := methS 0
theorem scInit : FnScope ["self", "entries", "rows", "names", "row"] ["self", "entries", "rows"] (defScope sInit) := ⟨rfl, rfl, rfl, by decide +kernel, rfl, by decide +kernel, by decide +kernel⟩
theorem ok_init {f fE fR C : Addr} {fd fdE fdR : FuncData} (F : FnM K "__init__" "Panel.__init__" sInit f fd) (L : Lib K mg) (LP : LibP mg) (PC : PanC K C)
    (FE : FnP K "check_entries" sChkE fE fdE) (gE : mg "check_entries" = some (.ref fE)) (GE : FnOk P w K mg base (L2.CX P w) 3 fE fdE ["entries"] (spChkE K))
    (FR : FnP K "check_rows" sChkR fR fdR) (gR : mg "check_rows" = some (.ref fR)) (GR : FnOk P w K mg base (L2.CX P w) 3 fR fdR ["entries", "rows"] (spChkR K)) : FnOk P w K mg base (L2.CX P w) 4 f fd ["self", "entries", "rows"] (spInit K C) := by
  have bE : Binds K fdE ["entries"] [] := FE.bindsN fun _ _ _ _ _ _ us hl => match us, hl with | [_], _ => rfl
  have bR : Binds K fdR ["entries", "rows"] [] := FR.bindsN fun _ _ _ _ _ _ us hl => match us, hl with | [_, _], _ => rfl
  refine F.ok scInit (fun vs H Q E h => ?_) (fun cdv A outer s H vs Q E hr h => ?_)
  · obtain ⟨_, _, _, _, _, rfl, _⟩ := h
    rfl
  · obtain ⟨a, dx, ve, vr, b, rfl, ha, hv, k1, k2⟩ := h
    have tk : Takes (cxOf (L2.CX P w) P w K mg base ["self", "entries", "rows", "names", "row"] "Panel.__init__" (defScope sInit) f cdv A outer s H E) (fun cls d _ H' => E cls d H') := takes_of rfl rfl rfl rfl
    refine ⟨_, pss_cons (ps_expr (pe_callS GE hr (by rfl) gE FE.kp bE (fun σ => passAt tk σ) (pa_cons (pv 1) pa_nil)))
      (pss_cons (ps_set (i := 3) scInit.nd rfl (Or.inl rfl) (pe_callB cr_sortedS (by rfl) LP.sorted (by decide +kernel) (pa_cons (pv 1) pa_nil)))
      (pss_cons (ps_expr (pe_callS GR hr (by rfl) gR FR.kp bR (fun σ => passAt tk σ) (pa_cons (pv 3) (pa_cons (pv 2) pa_nil))))
      (pss_cons (ps_fld (pv 0) (pv 3) rfl)
      (pss_one (ps_fld (pv 0) (pe_lc (own := [("row", 4)]) (g := gName 4) (tt := tYes) (te := tCB (fun xs H Q => ∃ p ys, xs = [V.ref p] ∧ (SqL K H p ys ∨ SqT K H p ys) ∧ ∀ l, H l = none → Q (.ref l) (upd H l (.lst ys))) (tCons (tVar 4) tNil)) rfl scInit.nd (pi_list (pv 2))
            (blkOk_by (N := ["self", "entries", "rows", "names", "row"]) (sc := defScope sInit) (by decide +kernel)) (fun _ _ _ _ _ => pg_name (i := 4) scInit.nd rfl (Or.inl rfl)) (fun _ _ _ _ _ => pts_nil)
            (fun _ _ _ _ _ => pe_callTy call_list_of (by rfl) LP.list (by decide +kernel) (pa_cons (pv 4) pa_nil))) rfl))))), ?_⟩
    refine ⟨_, rfl, ve, b, rfl, hv, fun hb H1 s1 => ?_, fun hb d H' s2 nd hd => k1 hb d H' s2 nd hd⟩
    obtain ⟨e, zs, rfl, hS, hz, k3⟩ := k2 hb
    refine ⟨_, rfl, e, zs, rfl, s1.seq hS, hz, fun xs N perm so nN => ?_⟩
    have s2 : Same H1 (upd H1 N (.lst (xs.map V.str))) := sn nN
    have fN : upd H1 N (.lst (xs.map V.str)) N = some (.lst (xs.map V.str)) := upd_same
    generalize upd H1 N (.lst (xs.map V.str)) = H2 at s2 fN ⊢
    have nNH : H N = none := s1.free nN
    have s12 := s1.trans s2
    obtain ⟨b2, hR, kf, kt⟩ := k3 xs perm so
    refine ⟨_, rfl, _, rfl, N, xs, vr, b2, rfl, SqL.of fN, so, hR.same s12, fun hb2 H3 s3 => ?_, fun hb2 d H' s4 nd hd => kf hb2 d H' (s12.trans s4) (s12.free nd) hd⟩
    have s13 := s12.trans s3
    have ha3 := s13 _ _ ha
    refine ⟨_, rfl, _, rfl, a, C, dx, [], rfl, ha3, PC.cls, PC.nE, (show 0 < 1000 by decide), ?_⟩
    have nNa : N ≠ a := fun q => by
      rw [q, ha] at nNH
      cases nNH
    have fN4 : upd H3 a (.ins C dx (putF "_entries" (.ref N) [])) N = some (.lst (xs.map V.str)) := by
      rw [upd_ne nNa]
      exact s3 _ _ fN
    have fa4 : upd H3 a (.ins C dx (putF "_entries" (.ref N) [])) a = some (.ins C dx (putF "_entries" (.ref N) [])) := upd_same
    have b4 : But a H (upd H3 a (.ins C dx (putF "_entries" (.ref N) []))) := (But.same s13).trans But.upd
    generalize upd H3 a (.ins C dx (putF "_entries" (.ref N) [])) = H4 at fN4 fa4 b4 ⊢
    cases hR with
    | no _ _ => cases hb2
    | @lst r vs bs e1 e2 e3 =>
      obtain ⟨_, hall⟩ := He.ba hb2
      obtain ⟨as, rs, rfl, hra, hrp⟩ := rows_of_all e3 hall
      have nra : r ≠ a := fun q => by
        rw [q, ha] at e1
        cases e1
      have nas : ∀ c ∈ as, c ≠ a := fun c hc q => by
        obtain ⟨y, _, e⟩ := hra.strs hc
        rw [q, ha] at e
        cases e
      have f4 := b4 _ _ nra e1
      have r4 : RowsAt H4 as rs := hra.keep fun c hc o e => b4 c o (nas c hc) e
      have kk := kt hb2 r as rs rfl e1 hra hrp
      refine ⟨_, rfl, r, rfl, ⟨_, SqL.of f4⟩, fun D hD => lc_list (K := K) (a := r) (xs := as.map V.ref) (fun i H' => ∃ cs : List Addr, H' D = some (.lst (cs.map V.ref)) ∧ RowsAt H' cs (rs.take i) ∧ (∀ c ∈ cs, H4 c = none ∧ c ≠ D) ∧ Same H4 H') ?_ (fun i H' _ h => by obtain ⟨_, _, _, _, h⟩ := h; exact SqL.of (h _ _ f4)) ?_ ?_⟩
      · exact ⟨[], upd_same, .nil, (fun c hc => nomatch hc), sn hD⟩
      · rintro i y H' hi ⟨cs, q1, q2, q3, q4⟩
        rw [List.getElem?_map] at hi
        obtain ⟨c, hc, rfl⟩ := Option.map_eq_some_iff.mp hi
        obtain ⟨ws, hw1, hw2⟩ := r4.at hc
        refine ⟨rfl, _, rfl, c, ws.map V.str, rfl, .inl (SqL.of (q4 _ _ hw2)), fun l nl => ?_⟩
        have s5 : Same H' (upd H' l (.lst (ws.map V.str))) := sn nl
        have fl : upd H' l (.lst (ws.map V.str)) l = some (.lst (ws.map V.str)) := upd_same
        generalize upd H' l (.lst (ws.map V.str)) = H5 at s5 fl ⊢
        have nlD : l ≠ D := fun q => by
          rw [q, q1] at nl
          cases nl
        refine ⟨cs.map V.ref, s5 _ _ q1, ?_, cs ++ [l], by rw [upd_same, List.map_append]; rfl, ?_, ?_, fun b o e => ?_⟩
        · refine small1000 ?_
          rw [List.length_map, q2.len]
          have := List.length_take_le' i rs
          have := hra.len
          rw [List.length_map] at e2
          omega
        · have tk2 : rs.take (i + 1) = rs.take i ++ [ws] := by rw [List.take_succ, hw1]; rfl
          rw [tk2]
          refine RowsAt.snoc ((q2.same s5).keep fun x hx o e => ?_) ?_
          · rw [upd_ne (q3 x hx).2]
            exact e
          · rw [upd_ne nlD]
            exact fl
        · intro x hx
          rcases List.mem_append.mp hx with hx | hx
          · exact q3 x hx
          · rw [List.mem_singleton.mp hx]
            exact ⟨q4.free nl, nlD⟩
        · rw [upd_ne (ne_of_none e hD)]
          exact s5 _ _ (q4 _ _ e)
      · rintro H' ⟨cs, q1, q2, q3, q4⟩
        have lr : (as.map V.ref).length = rs.length := by rw [List.length_map, hra.len]
        rw [lr, List.take_length] at q2
        have fa5 := q4 _ _ fa4
        refine ⟨_, rfl, a, C, dx, _, rfl, fa5, PC.cls, PC.nR, (show 1 < 1000 by decide), ?_⟩
        have nDa : D ≠ a := fun q => by
          rw [q, fa4] at hD
          cases hD
        have nDH : H D = none := by
          cases e : H D with
          | none => rfl
          | some o =>
            rw [b4 _ _ nDa e] at hD
            cases hD
        have ncs : ∀ c ∈ cs, c ≠ a := fun c hc q => by
          obtain ⟨y, _, e⟩ := q2.strs hc
          rw [q, fa5] at e
          cases e
        refine kk (putF "_rows" (.ref D) (putF "_entries" (.ref N) [])) N D cs _ upd_same rfl rfl ?_ ?_ (q2.keep fun c hc o e => by rw [upd_ne (ncs c hc)]; exact e) nNH nDH (fun c hc => ?_) rfl ⟨rfl, rfl, rfl, rfl, rfl⟩ ((b4.trans (But.same q4)).trans But.upd)
        · rw [upd_ne nNa]
          exact q4 _ _ fN4
        · rw [upd_ne nDa]
          exact q1
        · cases e : H c with
          | none => rfl
          | some o =>
            have := (q3 c hc).1
            rw [b4 _ _ (ncs c hc) e] at this
            cases this
end
end K08

set_option maxHeartbeats 8000000
namespace K08
open PySem PySem.Spec PyProof.Rows L2 G1
/-- lists of rows -/
theorem lists_rows {K : PySem.W.Frag} {H : Hp} {a c : Addr} {as cs : List Addr} {rs ts : List (List Str)} (ha : H a = some (.lst (as.map V.ref))) (hc : H c = some (.lst (cs.map V.ref))) (hr : RowsAt H as rs) (ht : RowsAt H cs ts) :
    Lists2 K H 1 (.ref a) (.ref c) (decide (rs = ts)) := by
  refine ⟨a, c, _, _, rfl, rfl, SqL.of ha, SqL.of hc, ?_⟩
  have l1 := hr.len
  have l2 := ht.len
  by_cases l : rs.length = ts.length
  · refine .inr ⟨by rw [List.length_map, List.length_map]; omega, fun i => decide (rs[i]? = ts[i]?), fun i x y hx hy => ?_, by rw [List.length_map, l1, all_range_eq l]⟩
    rw [List.getElem?_map] at hx hy
    obtain ⟨b, hb, rfl⟩ := Option.map_eq_some_iff.mp hx
    obtain ⟨d, hd, rfl⟩ := Option.map_eq_some_iff.mp hy
    obtain ⟨r, hr1, hr2⟩ := hr.at hb
    obtain ⟨t, ht1, ht2⟩ := ht.at hd
    show EqW K H 1 (.ref b) (.ref d) (decide (rs[i]? = ts[i]?))
    rw [hr1, ht1]
    by_cases q : b = d
    · subst q
      rw [hr2] at ht2
      injection ht2 with e
      injection e with e
      rw [map_str_inj e, decide_eq_true rfl]
      exact .same
    · obtain ⟨_, _, us, ws, e1, e2, s1, s2, z⟩ := lists_strs (K := K) (SqL.of hr2) (SqL.of ht2)
      have de : decide (some r = some t) = decide (r = t) := by
        by_cases w : r = t
        · rw [w, decide_eq_true rfl, decide_eq_true rfl]
        · rw [decide_eq_false w, decide_eq_false fun h => w (Option.some.inj h)]
      rw [de]
      cases e1
      cases e2
      rcases z with ⟨ne, e⟩ | ⟨len, f, hf, e⟩
      · rw [e]
        exact .lens q s1 s2 ne
      · rw [e]
        exact .lists q s1 s2 len hf
  · refine .inl ⟨by rw [List.length_map, List.length_map]; omega, decide_eq_false fun e => l (by rw [e])⟩
/-- a panel of entries xs and rows rs -/
def PanelAt (H : Hp) (C a : Addr) (xs : List Str) (rs : List (List Str)) : Prop := ∃ (dx : Addr) (fs : List (Str × V)) (N R : Addr) (cs : List Addr), H a = some (.ins C dx fs) ∧ fs.lookup ("_entries" : Str) = some (V.ref N) ∧ fs.lookup ("_rows" : Str) = some (V.ref R) ∧
  H N = some (.lst (xs.map V.str)) ∧ H R = some (.lst (cs.map V.ref)) ∧ RowsAt H cs rs
theorem PanelAt.same {H H' : Hp} {C a : Addr} {xs : List Str} {rs : List (List Str)} (h : PanelAt H C a xs rs) (s : Same H H') : PanelAt H' C a xs rs := by
  obtain ⟨dx, fs, N, R, cs, h1, h2, h3, h4, h5, h6⟩ := h
  exact ⟨dx, fs, N, R, cs, s _ _ h1, h2, h3, s _ _ h4, s _ _ h5, h6.same s⟩
def spEnt (C : Addr) : Sp := fun vs H Q _ => ∃ (a : Addr) (xs : List Str) (rs : List (List Str)), vs = [.ref a] ∧ PanelAt H C a xs rs ∧ ∀ D H', Same H H' → H D = none → H' D = some (.lst (xs.map V.str)) → Q (.ref D) H'
def spRws (C : Addr) : Sp := fun vs H Q _ => ∃ (a : Addr) (xs : List Str) (rs : List (List Str)), vs = [.ref a] ∧ PanelAt H C a xs rs ∧ rs.length ≤ 60 ∧
  ∀ D (as : List Addr) H', Same H H' → H D = none → H' D = some (.lst (as.map V.ref)) → RowsAt H' as rs → (∀ c ∈ as, H c = none ∧ c ≠ D) → as.Nodup → Q (.ref D) H'
def spLen (C : Addr) : Sp := fun vs H Q _ => ∃ (a : Addr) (xs : List Str) (rs : List (List Str)), vs = [.ref a] ∧ PanelAt H C a xs rs ∧ Q (.int (rs.length : Int)) H
section
variable {P : Program} {w : World} {K : PySem.W.Frag} {mg : Str → Option Value} {base : Heap} {C : Addr}
abbrev sEnt : Stmt := methS 1
theorem scEnt : FnScope ["self"] ["self"] (defScope sEnt) := ⟨rfl, rfl, rfl, by decide +kernel, rfl, by decide +kernel, by decide +kernel⟩
theorem ok_ent {f : Addr} {fd : FuncData} (F : FnM K "entries" "Panel.entries" sEnt f fd) (LP : LibP mg) (PC : PanC K C) : FnOk P w K mg base CX0 1 f fd ["self"] (spEnt C) := by
  refine okN F scEnt (fun vs H Q E h => ?_) (fun cdv A outer s H vs Q E hr h => ?_)
  · obtain ⟨_, _, _, rfl, _⟩ := h
    rfl
  · obtain ⟨a, xs, rs, rfl, ⟨dx, fs, N, R, cs, h1, h2, h3, h4, h5, h6⟩, k⟩ := h
    refine ⟨_, pss_one (ps_ret (pe_callTy call_list_of (by rfl) LP.list (by decide +kernel) (pa_cons (pe_fld (pv 0) rfl) pa_nil))), ?_⟩
    exact ⟨_, rfl, a, C, dx, fs, _, rfl, h1, PC.cls, PC.nE, h2, N, _, rfl, .inl (SqL.of h4), fun D nD => k D _ (sn nD) nD upd_same⟩
abbrev sLen : Stmt := methS 3
theorem scLen : FnScope ["self"] ["self"] (defScope sLen) := ⟨rfl, rfl, rfl, by decide +kernel, rfl, by decide +kernel, by decide +kernel⟩
theorem ok_len {f : Addr} {fd : FuncData} (F : FnM K "__len__" "Panel.__len__" sLen f fd) (L : Lib K mg) (PC : PanC K C) : FnOk P w K mg base CX0 1 f fd ["self"] (spLen C) := by
  refine okN F scLen (fun vs H Q E h => ?_) (fun cdv A outer s H vs Q E hr h => ?_)
  · obtain ⟨_, _, _, rfl, _⟩ := h
    rfl
  · obtain ⟨a, xs, rs, rfl, ⟨dx, fs, N, R, cs, h1, h2, h3, h4, h5, h6⟩, k⟩ := h
    refine ⟨_, pss_one (ps_ret (pe_callB call_len_seq (by rfl) L.len PySem.boot_len (pa_cons (pe_fld (pv 0) rfl) pa_nil))), ?_⟩
    refine ⟨_, rfl, a, C, dx, fs, _, rfl, h1, PC.cls, PC.nR, h3, R, _, rfl, .inl (SqL.of h5), ?_⟩
    rw [List.length_map, h6.len]
    exact k
abbrev sRws : Stmt := methS 2
theorem scRws : FnScope ["self", "row"] ["self"] (defScope sRws) := ⟨rfl, rfl, rfl, by decide +kernel, rfl, by decide +kernel, by decide +kernel⟩
theorem ok_rws {f : Addr} {fd : FuncData} (F : FnM K "rows" "Panel.rows" sRws f fd) (LP : LibP mg) (PC : PanC K C) : FnOk P w K mg base CX0 1 f fd ["self"] (spRws C) := by
  refine okN F scRws (fun vs H Q E h => ?_) (fun cdv A outer s H vs Q E hr h => ?_)
  · obtain ⟨_, _, _, rfl, _⟩ := h
    rfl
  · obtain ⟨a, xs, rs, rfl, ⟨dx, fs, N, R, cs, h1, h2, h3, h4, h5, h6⟩, le, k⟩ := h
    refine ⟨_, pss_one (ps_ret (pe_lc (own := [("row", 1)]) (g := gName 1) (tt := tYes) (te := tCB (fun xs H Q => ∃ p ys, xs = [V.ref p] ∧ (SqL K H p ys ∨ SqT K H p ys) ∧ ∀ l, H l = none → Q (.ref l) (upd H l (.lst ys))) (tCons (tVar 1) tNil)) rfl scRws.nd (pi_list (pe_fld (pv 0) rfl))
            (blkOk_by (N := ["self", "row"]) (sc := defScope sRws) (by decide +kernel)) (fun _ _ _ _ _ => pg_name (i := 1) scRws.nd rfl (Or.inl rfl)) (fun _ _ _ _ _ => pts_nil)
            (fun _ _ _ _ _ => pe_callTy call_list_of (by rfl) LP.list (by decide +kernel) (pa_cons (pv 1) pa_nil)))), ?_⟩
    refine ⟨_, rfl, a, C, dx, fs, _, rfl, h1, PC.cls, PC.nR, h3, R, rfl, ⟨_, SqL.of h5⟩, fun D hD => lc_list (K := K) (a := R) (xs := cs.map V.ref) (fun i H' => ∃ as : List Addr, H' D = some (.lst (as.map V.ref)) ∧ RowsAt H' as (rs.take i) ∧ (∀ c ∈ as, H c = none ∧ c ≠ D) ∧ as.Nodup ∧ Same H H') ?_ (fun i H' _ h => by obtain ⟨_, _, _, _, _, h⟩ := h; exact SqL.of (h _ _ h5)) ?_ ?_⟩
    · exact ⟨[], upd_same, .nil, (fun c hc => nomatch hc), .nil, sn hD⟩
    · rintro i y H' hi ⟨as, q1, q2, q3, qn, q4⟩
      rw [List.getElem?_map] at hi
      obtain ⟨c, hc, rfl⟩ := Option.map_eq_some_iff.mp hi
      obtain ⟨ws, hw1, hw2⟩ := h6.at hc
      refine ⟨rfl, _, rfl, c, ws.map V.str, rfl, .inl (SqL.of (q4 _ _ hw2)), fun l nl => ?_⟩
      have s5 : Same H' (upd H' l (.lst (ws.map V.str))) := sn nl
      have fl : upd H' l (.lst (ws.map V.str)) l = some (.lst (ws.map V.str)) := upd_same
      generalize upd H' l (.lst (ws.map V.str)) = H5 at s5 fl ⊢
      have nlD : l ≠ D := fun q => by
        rw [q, q1] at nl
        cases nl
      have nla : l ∉ as := fun hx => by
        obtain ⟨y, _, e⟩ := q2.strs hx
        rw [nl] at e
        cases e
      refine ⟨as.map V.ref, s5 _ _ q1, ?_, as ++ [l], by rw [upd_same, List.map_append]; rfl, ?_, ?_, ?_, fun b o e => ?_⟩
      · refine small1000 ?_
        rw [List.length_map, q2.len]
        have := List.length_take_le' i rs
        omega
      · have tk2 : rs.take (i + 1) = rs.take i ++ [ws] := by rw [List.take_succ, hw1]; rfl
        rw [tk2]
        refine RowsAt.snoc ((q2.same s5).keep fun x hx o e => ?_) ?_
        · rw [upd_ne (q3 x hx).2]
          exact e
        · rw [upd_ne nlD]
          exact fl
      · intro x hx
        rcases List.mem_append.mp hx with hx | hx
        · exact q3 x hx
        · rw [List.mem_singleton.mp hx]
          exact ⟨q4.free nl, nlD⟩
      · exact List.nodup_append.mpr ⟨qn, List.pairwise_singleton _ _, fun x hx z hz e => nla (by rw [← List.mem_singleton.mp hz, ← e]; exact hx)⟩
      · rw [upd_ne (ne_of_none e hD)]
        exact s5 _ _ (q4 _ _ e)
    · rintro H' ⟨as, q1, q2, q3, qn, q4⟩
      have lr : (cs.map V.ref).length = rs.length := by rw [List.length_map, h6.len]
      rw [lr, List.take_length] at q2
      exact k D as H' q4 hD q1 q2 q3 qn
end
end K08

set_option maxHeartbeats 8000000
namespace K08
open PySem PySem.Spec PyProof.Rows L2 G1
/-- what more is known of the class -/
structure PanX (K : PySem.W.Frag) (C : Addr) : Prop extends PanC K C where
  cc : PySem.W.findIn K (.ref C) "__class__" = some (some (.builtin "object.__class__"))
  sg : PySem.W.specialIn K (.builtin "object.__class__") "__get__" = some (some (.builtin "getset_descriptor.__get__"))
  tk : PySem.W.takesIn K (.builtin "object.__class__") = some true
  mo : PySem.W.mroIn K C (.type "object") = some true
  me : PySem.W.kitOne K (.ref C) (.ref C) = some true
  no : ∀ T : String, T = "NoneType" ∨ T = "int" ∨ T = "list" ∨ T = "tuple" → PySem.W.kitOne K (.type T) (.ref C) = some false
def DPan (K : PySem.W.Frag) (C : Addr) : V → V → Hp → Bool → Prop := fun x y H b => ∃ (a : Addr) (xs : List Str) (rs : List (List Str)), x = .ref a ∧ PanelAt H C a xs rs ∧
  ((∃ (c : Addr) (ys : List Str) (ts : List (List Str)), y = .ref c ∧ PanelAt H C c ys ts ∧ b = (decide (xs = ys) && decide (rs = ts))) ∨ (∃ T : String, TyX K H y (.type T) ∧ PySem.W.kitOne K (.type T) (.ref C) = some false ∧ b = false))
section
variable {P : Program} {w : World} {K : PySem.W.Frag} {mg : Str → Option Value} {base : Heap} {C : Addr}
abbrev sEq : Stmt := methS 4
theorem scEq : FnScope ["self", "other"] ["self", "other"] (defScope sEq) := ⟨rfl, rfl, rfl, by decide +kernel, rfl, by decide +kernel, by decide +kernel⟩
theorem ok_eq {f : Addr} {fd : FuncData} (F : FnM K "__eq__" "Panel.__eq__" sEq f fd) (LP : LibP mg) (PC : PanX K C) (gP : mg "Panel" = some (.ref C)) : FnOk P w K mg base CX0 1 f fd ["self", "other"] (spEqB (DPan K C)) := by
  refine okN F scEq (fun vs H Q E h => ?_) (fun cdv A outer s H vs Q E hr h => ?_)
  · obtain ⟨_, _, _, rfl, _⟩ := h
    rfl
  · obtain ⟨x, y, b, rfl, ⟨a, xs, rs, rfl, ⟨dx, fs, N, R, cs, h1, h2, h3, h4, h5, h6⟩, hy⟩, k⟩ := h
    have hu := hr.units
    have hu1 : (A.deeper (envOfC "Panel.__eq__" (defScope sEq) s.heap.objs.size f cdv)).units + (0 + 1) < cLine := by omega
    have hu2 : (A.deeper (envOfC "Panel.__eq__" (defScope sEq) s.heap.objs.size f cdv)).units + (1 + 1) < cLine := by omega
    refine ⟨_, pss_one (ps_ret (pe_and (pe_callB call_isi (by rfl) LP.isi (by decide +kernel) (pa_cons (pv 1) (pa_cons (pe_glob (v := .ref C) (by rfl) gP rfl) pa_nil)))
      (pe_and (pe_cmpR (op_eqW (n := 0) hu1) (pe_fld (pv 0) rfl) (pe_fld (pv 1) rfl) (nomark _)) (pe_one (pe_cmpR (op_eqW (n := 1) hu2) (pe_fld (pv 0) rfl) (pe_fld (pv 1) rfl) (nomark _)))))), ?_⟩
    rcases hy with ⟨c, ys, ts, rfl, ⟨dy, gs, N2, R2, ds, g1, g2, g3, g4, g5, g6⟩, rfl⟩ | ⟨T, ty, nk, rfl⟩
    · refine ⟨_, rfl, .ref c, .ref C, .ref C, .ref C, true, rfl, .own C, .base (.ins g1 PC.cls PC.cc PC.sg PC.tk PC.mo), PC.me, true, rfl, iteT ?_⟩
      refine ⟨_, rfl, a, C, dx, fs, _, rfl, h1, PC.cls, PC.nE, h2, _, rfl, c, C, dy, gs, _, rfl, g1, PC.cls, PC.nE, g2, _, lists_strs (SqL.of h4) (SqL.of g4), _, rfl, ?_⟩
      cases e1 : decide (xs = ys) with
      | false =>
        rw [e1] at k
        exact iteF (k H (Same.refl H))
      | true =>
        rw [e1] at k
        refine iteT ⟨_, rfl, a, C, dx, fs, _, rfl, h1, PC.cls, PC.nR, h3, _, rfl, c, C, dy, gs, _, rfl, g1, PC.cls, PC.nR, g3, _, lists_rows h5 g5 h6 g6, ?_⟩
        exact k H (Same.refl H)
    · refine ⟨_, rfl, y, .ref C, .type T, .ref C, false, rfl, .own C, ty, nk, false, rfl, iteF ?_⟩
      exact k H (Same.refl H)
end
end K08

set_option maxHeartbeats 8000000
namespace K08
open PySem PySem.Spec PyProof.Rows L2 G1
theorem Unl.same {K : PySem.W.Frag} {H H' : Hp} {v : V} {b : Bool} (h : Unl K H v b) (s : Same H H') : Unl K H' v b := by
  cases h with
  | no t n => exact .no (TyX.same t s) n
  | odd h1 h2 h3 h4 => exact .odd (s _ _ h1) h2 (h3.same s) h4
  | names h1 h2 h3 => exact .names (s _ _ h1) h2 h3
theorem RItL.ofStrs {K : PySem.W.Frag} {H : Hp} (zs : List Str) : RItL K H (zs.map V.str) (zs.map some) := by
  induction zs with
  | nil => exact .nil
  | cons z zs ih => exact .cons (.str z) ih
theorem RItL.append {K : PySem.W.Frag} {H : Hp} {vs ws : List V} {os ps : List (Option Str)} (h : RItL K H vs os) (g : RItL K H ws ps) : RItL K H (vs ++ ws) (os ++ ps) := by
  induction h with
  | nil => exact g
  | cons e _ ih => exact .cons e ih
theorem cutV_last {xs : List V} : cutV xs none (some (-1 : Int)) = xs.dropLast := by
  have e : HT.sIx xs.length xs.length (some (-1 : Int)) = xs.length - 1 := by
    unfold HT.sIx
    simp
    omega
  unfold cutV
  rw [e, List.dropLast_eq_take]
  rfl
theorem cutV_one {xs : List V} : cutV xs (some (1 : Int)) (some (2 : Int)) = (xs.drop 1).take 1 := by
  have e1 : HT.sIx xs.length 0 (some (1 : Int)) = min 1 xs.length := by
    unfold HT.sIx
    simp
  have e2 : HT.sIx xs.length xs.length (some (2 : Int)) = min 2 xs.length := by
    unfold HT.sIx
    simp
  unfold cutV
  rw [e1, e2]
  match xs with
  | [] => rfl
  | [_] => rfl
  | _ :: _ :: _ => simp
theorem same_del {A H' : Hp} {D : Addr} (s : Same A H') (n : A D = none) : Same A (delH H' D) := fun b o e => by
  rw [delH_ne (ne_of_none e n)]
  exact s b o e
theorem del_sub {H : Hp} {l : Addr} : Same (delH H l) H := fun b o e => by
  by_cases q : b = l
  · rw [q, delH_same] at e
    cases e
  · rw [delH_ne q] at e
    exact e
theorem del_mono {H H' : Hp} {l : Addr} (s : Same H H') : Same (delH H l) (delH H' l) := fun b o e => by
  by_cases q : b = l
  · rw [q, delH_same] at e
    cases e
  · rw [delH_ne q] at e ⊢
    exact s b o e
theorem del_upd {H : Hp} {l : Addr} {o : HO} : Same (delH H l) (delH (upd H l o) l) := fun b u e => by
  by_cases q : b = l
  · rw [q, delH_same] at e
    cases e
  · rw [delH_ne q] at e ⊢
    rw [upd_ne q]
    exact e
theorem cutV_from {xs : List V} (h : 1 ≤ xs.length) : cutV xs (some (1 : Int)) none = xs.drop 1 := by
  have e : HT.sIx xs.length 0 (some (1 : Int)) = 1 := by
    unfold HT.sIx
    simp
    omega
  have e2 : HT.sIx xs.length xs.length none = xs.length := rfl
  unfold cutV
  rw [e, e2]
  exact List.take_of_length_le (by rw [List.length_drop]; exact Nat.le_refl _)
theorem rows_true {K : PySem.W.Frag} {H : Hp} {xs : List Str} {as : List Addr} {rs : List (List Str)} (h : RowsAt H as rs) (hp : ∀ r ∈ rs, r.Perm xs) (le : xs.length ≤ 60) : RowVL K H xs (as.map V.ref) (rs.map fun _ => true) := by
  induction h with
  | nil => exact .nil
  | @cons a r as rs e _ ih =>
    have p := hp r List.mem_cons_self
    exact .cons (.lst e (by rw [List.length_map, p.length_eq]; exact le) (.ofStrs r) ⟨fun _ => ⟨r, rfl, p⟩, fun _ => rfl⟩) (ih fun y hy => hp y (List.mem_cons_of_mem _ hy))
theorem RowVL.append {K : PySem.W.Frag} {H : Hp} {xs : List Str} {vs ws : List V} {bs cs : List Bool} (h : RowVL K H xs vs bs) (g : RowVL K H xs ws cs) : RowVL K H xs (vs ++ ws) (bs ++ cs) := by
  induction h with
  | nil => exact g
  | cons e _ ih => exact .cons e ih
theorem unl_names {K : PySem.W.Frag} {H : Hp} {e : Addr} {zs : List Str} (h : H e = some (.lst (zs.map V.str))) (le : zs.length ≤ 40) (nm : ∀ z ∈ zs, Nm z) (nd : zs.Nodup) (l1 : 1 ≤ zs.length) : Unl K H (.ref e) true := by
  have q : Unl K H (.ref e) (!zs.isEmpty && decide zs.Nodup) := .names h (by omega) nm
  have e1 : zs.isEmpty = false := by
    cases zs with
    | nil => exact absurd l1 (by decide)
    | cons _ _ => rfl
  rw [e1, decide_eq_true nd] at q
  exact q
/-- what is in a heap and was not in an earlier one -/
def newH (H H' : Hp) : Hp := fun b => match H b with
  | none => H' b
  | some _ => none
theorem new_sub {H H' : Hp} : Same (newH H H') H' := fun b o e => by
  unfold newH at e
  cases q : H b with
  | none => rw [q] at e; exact e
  | some u => rw [q] at e; cases e
theorem new_at {H H' : Hp} {b : Addr} (h : H b = none) : newH H H' b = H' b := by
  unfold newH
  rw [h]
theorem new_none {H H' : Hp} {b : Addr} (h : H b ≠ none) : newH H H' b = none := by
  unfold newH
  cases q : H b with
  | none => exact absurd q h
  | some u => rfl
theorem same_upd {A B : Hp} {b : Addr} {o : HO} (s : Same A B) (n : A b = none) : Same A (upd B b o) := fun c u e => by
  rw [upd_ne (ne_of_none e n)]
  exact s c u e
/-- its methods are not hidden by fields -/
def Fre (H : Hp) (C a : Addr) : Prop := ∃ (dx : Addr) (fs : List (Str × V)), H a = some (.ins C dx fs) ∧ fs.lookup ("entries" : Str) = none ∧ fs.lookup ("rows" : Str) = none ∧ fs.lookup ("struck" : Str) = none ∧ fs.lookup ("with_row" : Str) = none ∧ fs.lookup ("without_row" : Str) = none ∧ fs.lookup ("renamed" : Str) = none
theorem Fre.same {H H' : Hp} {C a : Addr} (h : Fre H C a) (s : Same H H') : Fre H' C a := by
  obtain ⟨dx, fs, h1, h2⟩ := h
  exact ⟨dx, fs, s _ _ h1, h2⟩
/-- a panel made of what is right -/
theorem make_ok {K : PySem.W.Frag} {C : Addr} {H : Hp} {P : Addr → Hp → Prop} {E : XK} {e r : Addr} {zs xs : List Str} {as : List Addr} {rs : List (List Str)} (he : H e = some (.lst (zs.map V.str))) (nm : ∀ z ∈ zs, Nm z) (nd : zs.Nodup) (l1 : 1 ≤ zs.length) (l2 : zs.length ≤ 40)
    (p : xs.Perm zs) (so : sortedS xs = true) (hr : H r = some (.lst (as.map V.ref))) (ha : RowsAt H as rs) (hp : ∀ y ∈ rs, y.Perm xs) (r1 : 1 ≤ rs.length) (r2 : rs.length ≤ 40)
    (k : ∀ a H', Same H H' → H a = none → PanelAt H' C a xs rs → PanelAt (newH H H') C a xs rs → Fre (newH H H') C a → P a H') :
    ∀ a dx, H a = none → H dx = none → dx ≠ a → spInit K C [.ref a, .ref e, .ref r] (upd (upd H dx (.own a)) a (.ins C dx [])) (fun v H2 => v = .non ∧ P a H2) E := by
  intro a dx na nd2 ne
  have s1 : Same H (upd (upd H dx (.own a)) a (.ins C dx [])) := (sn nd2).trans (sn (by rw [upd_ne (Ne.symm ne)]; exact na))
  have fa : upd (upd H dx (.own a)) a (.ins C dx []) a = some (.ins C dx []) := upd_same
  generalize upd (upd H dx (.own a)) a (.ins C dx []) = H1 at s1 fa ⊢
  refine ⟨a, dx, .ref e, .ref r, true, rfl, fa, unl_names (s1 _ _ he) l2 nm nd l1, (fun q => nomatch q), fun _ => ⟨e, zs, rfl, SqL.of (s1 _ _ he), by omega, fun ys py sy => ?_⟩⟩
  have exy : ys = xs := sorted_uniq sy so (py.trans p.symm)
  subst exy
  have lra := ha.len
  have q : RowsV K H1 ys (.ref r) (!(as.map V.ref).isEmpty && (rs.map fun _ => true).all id) := .lst (s1 _ _ hr) (by rw [List.length_map]; omega) (rows_true (ha.same s1) hp (by have := p.length_eq; omega))
  have e1 : (as.map V.ref).isEmpty = false := by
    cases as with
    | nil => simp at lra; omega
    | cons _ _ => rfl
  have e2 : (rs.map fun _ => true).all id = true := by
    rw [List.all_map]
    exact List.all_eq_true.mpr fun _ _ => rfl
  rw [e1, e2] at q
  refine ⟨true, q, (fun z => nomatch z), fun _ r' as' rs' er hr' hra' hp' fs N R cs H' h1 h2 h3 h4 h5 h6 h7 h8 h9 g1 g2 b => ⟨rfl, ?_⟩⟩
  cases er
  have ers : rs' = rs := by
    rw [s1 _ _ hr] at hr'
    injection hr' with z
    injection z with z
    have eas : as = as' := by
      have inj : ∀ {x y : List Addr}, x.map V.ref = y.map V.ref → x = y := fun {x} => by
        induction x with
        | nil => intro y h; cases y with
          | nil => rfl
          | cons _ _ => cases h
        | cons x0 x ih => intro y h; cases y with
          | nil => cases h
          | cons y0 y =>
            injection h with h1 h2
            injection h1 with h3
            rw [h3, ih h2]
      exact inj z
    subst eas
    have ha1 := ha.same s1
    clear hp' hp h6 k q e1 e2 lra r1 r2 hr z ha
    induction hra' generalizing rs with
    | nil => cases ha1; rfl
    | cons e0 _ ih =>
      cases ha1 with
      | cons e3 t3 =>
        rw [e0] at e3
        injection e3 with e3
        injection e3 with e3
        rw [map_str_inj e3, ih t3]
  subst ers
  have w1 : newH H H' a = some (.ins C dx fs) := by rw [new_at na]; exact h1
  refine k a H' (fun c o ec => ?_) na ⟨dx, fs, N, R, cs, h1, h2, h3, h4, h5, h6⟩ ⟨dx, fs, N, R, cs, w1, h2, h3, ?_, ?_, h6.keep fun c hc o e => ?_⟩ ⟨dx, fs, w1, g1, g2⟩
  rotate_left
  · rw [new_at (s1.free h7)]; exact h4
  · rw [new_at (s1.free h8)]; exact h5
  · rw [new_at (s1.free (h9 c hc))]; exact e
  by_cases qc : c = a
  · rw [qc, na] at ec
    cases ec
  · exact b c o qc (s1 _ _ ec)
/-- what more is known of the class where panels are compared -/
structure PanY (K : PySem.W.Frag) (C fE : Addr) : Prop extends PanX K C where
  eq : PySem.W.findIn K (.ref C) "__eq__" = some (some (.ref fE))
  fn : PySem.W.isFn K (.ref fE) = true
  ne : PySem.W.findIn K (.ref C) "__ne__" = some (some (.builtin "object.__ne__"))
  ob : PySem.W.subIn K (.ref C) (.type "object") = some true
  nm : PySem.W.notFirst K C (.ref C) = true
  nt : ∀ T : String, T = "NoneType" ∨ T = "int" ∨ T = "list" ∨ T = "tuple" → PySem.W.notFirst K C (.type T) = true
theorem RowsAt.app {H : Hp} {as bs : List Addr} {rs ts : List (List Str)} (h : RowsAt H as rs) (g : RowsAt H bs ts) : RowsAt H (as ++ bs) (rs ++ ts) := by
  induction h with
  | nil => exact g
  | cons e _ ih => exact .cons e ih
theorem RowsAt.tk {H : Hp} {as : List Addr} {rs : List (List Str)} (h : RowsAt H as rs) (m : Nat) : RowsAt H (as.take m) (rs.take m) := by
  induction h generalizing m with
  | nil => rw [List.take_nil, List.take_nil]; exact .nil
  | cons e _ ih =>
    cases m with
    | zero => exact .nil
    | succ m => exact .cons e (ih m)
theorem RowsAt.dr {H : Hp} {as : List Addr} {rs : List (List Str)} (h : RowsAt H as rs) (m : Nat) : RowsAt H (as.drop m) (rs.drop m) := by
  induction h generalizing m with
  | nil => rw [List.drop_nil, List.drop_nil]; exact .nil
  | cons e t ih =>
    cases m with
    | zero => exact .cons e t
    | succ m => exact ih m
theorem RowsAt.rev {H : Hp} {as : List Addr} {rs : List (List Str)} (h : RowsAt H as rs) : RowsAt H as.reverse rs.reverse := by
  induction h with
  | nil => exact .nil
  | cons e _ ih =>
    rw [List.reverse_cons, List.reverse_cons]
    exact ih.snoc e
end K08

set_option maxHeartbeats 4000000
/-! len(x) by an own __len__ -/
namespace G1
open PySem PySem.Spec PyProof.Rows L2
def rLenO (C : Addr) (sp : Sp) : List V → Hp → VK → Prop := fun xs H Q => ∃ (a dx : Addr) (fs : List (Str × V)) (n : Int), xs = [.ref a] ∧ H a = some (.ins C dx fs) ∧ 0 ≤ n ∧ n < 2 ^ 63 ∧ sp [.ref a] H (fun v H' => v = .int n ∧ Q (.int n) H') E0
section
variable {X : Cx}
theorem call_lenO {C f : Addr} {fd : FuncData} {ps : List Str} {k : Nat} {sp : Sp} (F : FnOk X.prog X.w X.K X.mg X.base CX0 k f fd ps sp) (hr : Room (k + 1) X.A)
    (hs : PySem.W.findIn X.K (.ref C) "__len__" = some (some (.ref f))) (hf : PySem.W.isFn X.K (.ref f) = true) (hb : Binds X.K fd ps []) : CallR X (.builtin "len") (rLenO C sp) := by
  intro pins s σ H xs us Q I r h
  obtain ⟨a, dx, fs, n, rfl, ha, n0, n1, hsp⟩ := h
  obtain ⟨u, rfl, ru⟩ := vals1 r
  obtain rfl : u = Value.ref a := ru
  obtain ⟨mA, J, _⟩ := ins_get I.hok ha
  obtain ⟨od, J, _⟩ := J.look
  obtain ⟨m, hF⟩ := I.fr
  have hr1 : Room k X.A.in1 := hr.in1
  refine PySem.W.len_K hF I.ok.mod.kin J hs hf ?_
  have r2 : Vals [V.ref a] [Value.ref a] := .cons rfl .nil
  have len := F.len _ _ _ _ hsp
  have e0 : Env0 X.prog X.w X.K X.mg X.base X.A.in1 X.stack s H := by
    have e := I.env0
    exact ⟨e.frames, e.mod, e.bs, e.bsz, e.funs, e.frf, e.hok, e.bare⟩
  refine wpAny_call (codeAny_mono (F.run X.A.in1 X.stack s H ⟨[.ref a], []⟩ [.ref a] [V.ref a] _ E0 hr1 e0 (by
    have z := hb s [.ref a] I.kIn (by simpa using len)
    simpa using z) r2 hsp) fun r s' hq => ?_)
  match r, hq with
  | .error e, hq => exact pass0 (X := X) pins σ H s e s' I hq
  | .ok (.ret w), hq =>
    obtain ⟨z, H', I', rz, ez, q⟩ := I.after hq
    subst ez
    obtain ⟨t, rfl⟩ := rz
    exact ⟨⟨n0, n1⟩, .int n, H', I'.tok _, ⟨_, rfl⟩, q⟩
end
end G1

set_option maxHeartbeats 8000000
namespace K08
open PySem PySem.Spec PyProof.Rows L2 G1
/-! ### data that is small -/
structure FineN (d : PyData) (n w : Nat) : Prop where
  a : PyData.canLay0 d = true
  b : PyData.depth d ≤ n
  c : PyData.weight d ≤ w
  e : d.intsShort 13 = true
  f : d.showable = true
  g : d.hasDict = false
structure FineAll (ds : List PyData) (n w : Nat) : Prop where
  a : PyData.canLayAll0 ds = true
  b : PyData.depthAll ds ≤ n
  c : PyData.weightAll ds ≤ w
  e : PyData.intsShortAll 13 ds = true
  f : PyData.showableAll ds = true
  g : PyData.hasDictAll ds = false
theorem FineN.le {d : PyData} {n w : Nat} (h : FineN d n w) (hn : n ≤ 10) (hw : w ≤ 1000) : d.shown.length ≤ sizeLine := by
  have l : PyData.layable0 d = true := by
    unfold PyData.layable0
    rw [Bool.and_eq_true, Bool.and_eq_true]
    exact ⟨⟨h.a, decide_eq_true (Nat.le_trans (Nat.le_trans h.b hn) (by decide))⟩, decide_eq_true (Nat.le_trans (Nat.le_trans h.c hw) (by decide))⟩
  exact Nat.le_trans (shown_le13 l h.e) (by decide)
theorem FineN.shaped {d : PyData} {n w : Nat} (h : FineN d n w) (hn : n ≤ 10) : SeqAt.shaped d = true := by
  unfold SeqAt.shaped
  rw [Bool.and_eq_true]
  exact ⟨h.a, decide_eq_true (Nat.le_trans (Nat.le_trans h.b hn) (by decide))⟩
theorem FineN.mono {d : PyData} {n w n' w' : Nat} (h : FineN d n w) (hn : n ≤ n') (hw : w ≤ w') : FineN d n' w' := ⟨h.a, Nat.le_trans h.b hn, Nat.le_trans h.c hw, h.e, h.f, h.g⟩
theorem FineAll.nil (n w : Nat) : FineAll [] n w := by
  constructor <;> simp [PyData.canLayAll0, PyData.depthAll, PyData.weightAll, PyData.intsShortAll, PyData.showableAll, PyData.hasDictAll]
theorem FineAll.cons {d : PyData} {ds : List PyData} {n w v : Nat} (h : FineN d n w) (k : FineAll ds n v) : FineAll (d :: ds) n (w + 1 + v) := by
  obtain ⟨a1, a2, a3, a4, a5, a6⟩ := h
  obtain ⟨b1, b2, b3, b4, b5, b6⟩ := k
  constructor <;> simp only [PyData.canLayAll0, PyData.depthAll, PyData.weightAll, PyData.intsShortAll, PyData.showableAll, PyData.hasDictAll, a1, a4, a5, a6, b1, b4, b5, b6, Bool.and_self, Bool.or_self] <;> omega
theorem FineAll.list {ds : List PyData} {n w : Nat} (h : FineAll ds n w) : FineN (.list ds) (n + 1) w := by
  obtain ⟨a1, a2, a3, a4, a5, a6⟩ := h
  constructor <;> simp only [PyData.canLay0, PyData.depth, PyData.weight, PyData.intsShort, PyData.showable, PyData.hasDict, a1, a4, a5, a6] <;> omega
theorem strOk_of {z : Str} (h : Letters z) : PyData.strOk z = true := by
  unfold PyData.strOk
  rw [Array.all_eq_true_iff_forall_mem]
  intro c hc
  have := h c (Array.mem_toList_iff.mpr hc)
  exact decide_eq_true (by omega)
theorem fn_str {z : Str} (n : Nat) (h : Nm z) : FineN (.str z) n 8 := by
  have hl' : z.cps.size ≤ 8 := h.2.1
  have ok := strOk_of h.2.2
  constructor <;> simp only [PyData.canLay0, PyData.depth, PyData.weight, PyData.intsShort, PyData.showable, PyData.hasDict, ok] <;> omega
theorem fn_int (n : Nat) {m : Nat} (h1 : 1 ≤ m) (h4 : m ≤ 4) : FineN (.int (m : Int)) n 8 := by
  have e : m = 1 ∨ m = 2 ∨ m = 3 ∨ m = 4 := by omega
  have d : ∀ i ∈ [1, 2, 3, 4], PyData.canLay0 (.int (i : Int)) = true ∧ PyData.depth (.int (i : Int)) = 0 ∧ PyData.weight (.int (i : Int)) ≤ 8 ∧ PyData.intsShort 13 (.int (i : Int)) = true ∧ PyData.showable (.int (i : Int)) = true ∧ PyData.hasDict (.int (i : Int)) = false := by
    decide +kernel
  have hm : (m : Int) ∈ [1, 2, 3, 4] := by
    rcases e with rfl | rfl | rfl | rfl <;> simp
  obtain ⟨d1, d2, d3, d4, d5, d6⟩ := d _ hm
  exact ⟨d1, by rw [d2]; exact Nat.zero_le _, d3, d4, d5, d6⟩
def rd (r : List Str) : PyData := .list (r.map PyData.str)
def rsd (rs : List (List Str)) : PyData := .list (rs.map rd)
theorem fine_strs {r : List Str} (h : ∀ z ∈ r, Nm z) : FineAll (r.map PyData.str) 0 (9 * r.length) := by
  induction r with
  | nil => exact .nil _ _
  | cons z r ih =>
    have q := FineAll.cons (fn_str 0 (h z List.mem_cons_self)) (ih fun y hy => h y (List.mem_cons_of_mem _ hy))
    rw [List.map_cons, List.length_cons, show 9 * (r.length + 1) = 8 + 1 + 9 * r.length by omega]
    exact q
theorem fine_row {r : List Str} (h : ∀ z ∈ r, Nm z) (l : r.length ≤ 7) : FineN (rd r) 1 63 := (fine_strs h).list.mono (Nat.le_refl _) (by omega)
theorem fine_rows {rs : List (List Str)} (h : ∀ r ∈ rs, (∀ z ∈ r, Nm z) ∧ r.length ≤ 7) : FineAll (rs.map rd) 1 (64 * rs.length) := by
  induction rs with
  | nil => exact .nil _ _
  | cons r rs ih =>
    have q := FineAll.cons (fine_row (h r List.mem_cons_self).1 (h r List.mem_cons_self).2) (ih fun y hy => h y (List.mem_cons_of_mem _ hy))
    rw [List.map_cons, List.length_cons, show 64 * (rs.length + 1) = 63 + 1 + 64 * rs.length by omega]
    exact q
theorem fine_rsd {rs : List (List Str)} (h : ∀ r ∈ rs, (∀ z ∈ r, Nm z) ∧ r.length ≤ 7) (l : rs.length ≤ 4) : FineN (rsd rs) 2 256 := (fine_rows h).list.mono (Nat.le_refl _) (by omega)
theorem eqv_fine {d : PyData} {n w : Nat} (h : FineN d n w) : PyData.eqv d d = true := SeqAt.eqv_refl d h.a
theorem dps_strs {K : PySem.W.Frag} {H : Hp} (r : List Str) : DpAll K H (r.map V.str) (r.map PyData.str) := by
  induction r with
  | nil => exact .nil
  | cons z r ih => exact .cons (.str z) ih
theorem dp_row {K : PySem.W.Frag} {H : Hp} {a : Addr} {r : List Str} (h : H a = some (.lst (r.map V.str))) : Dp K H (.ref a) (rd r) := .lst (SqL.of h) (dps_strs r)
theorem dps_rows {K : PySem.W.Frag} {H : Hp} {as : List Addr} {rs : List (List Str)} (h : RowsAt H as rs) : DpAll K H (as.map V.ref) (rs.map rd) := by
  induction h with
  | nil => exact .nil
  | cons e _ ih => exact .cons (dp_row e) ih
theorem dp_rows {K : PySem.W.Frag} {H : Hp} {a : Addr} {as : List Addr} {rs : List (List Str)} (h : H a = some (.lst (as.map V.ref))) (r : RowsAt H as rs) : Dp K H (.ref a) (rsd rs) := .lst (SqL.of h) (dps_rows r)
/-- [list(row) for row in rows] -/
theorem lc_rows {K : PySem.W.Frag} {R : Addr} {as : List Addr} {rs : List (List Str)} {g : TG} {tt : TT} {te : TE} {vs : List Nat} {σ : L2.St} {H1 : Hp} {D : Addr} {Qd : Hp → Prop} (hR : H1 R = some (.lst (as.map V.ref))) (hra : RowsAt H1 as rs) (le : rs.length ≤ 60) (hD : H1 D = none)
    (hst : ∀ (c : Addr) (H' : Hp) (F : V → Hp → Prop) (E : Hp → Prop), (∃ p ys, [V.ref c] = [V.ref p] ∧ (SqL K H' p ys ∨ SqT K H' p ys) ∧ ∀ l, H' l = none → F (.ref l) (upd H' l (.lst ys))) →
      g (.ref c) (wipe σ vs) H' fun σ2 H2 => wipe σ2 vs = wipe σ vs ∧ tt σ2 H2 fun b H3 => if b = true then te σ2 H3 fun y H4 => F y H4 else E H3)
    (k : ∀ (ls : List Addr) (H' : Hp), H' D = some (.lst (ls.map V.ref)) → RowsAt H' ls rs → (∀ c ∈ ls, H1 c = none ∧ c ≠ D) → ls.Nodup → Same H1 H' → Qd H') :
    ∃ W : Nat → Nat → Hp → Prop, (∃ m, W 0 m (upd H1 D (.lst []))) ∧ ∀ i m H, W i m H →
      ((Itl K R).stop i H ∧ Qd H) ∨ ((Itl K R).go i H ∧ ∃ Nx : Hp → Prop, (∀ H', Nx H' → ∃ m', m' < m ∧ W (i + 1) m' H') ∧ ∀ x H', (Itl K R).yld i H x H' → g x (wipe σ vs) H' fun σ2 H2 => wipe σ2 vs = wipe σ vs ∧ tt σ2 H2 fun b H3 =>
        if b = true then te σ2 H3 fun y H4 => ∃ acc, H4 D = some (.lst acc) ∧ acc.length < sizeLine ∧ Nx (upd H4 D (.lst (acc ++ [y]))) else Nx H3) := by
  refine lc_list (K := K) (a := R) (xs := as.map V.ref) (fun i H' => ∃ ls : List Addr, H' D = some (.lst (ls.map V.ref)) ∧ RowsAt H' ls (rs.take i) ∧ (∀ c ∈ ls, H1 c = none ∧ c ≠ D) ∧ ls.Nodup ∧ Same H1 H') ?_ (fun i H' _ h => by obtain ⟨_, _, _, _, _, h⟩ := h; exact SqL.of (h _ _ hR)) ?_ ?_
  · exact ⟨[], upd_same, .nil, (fun c hc => nomatch hc), .nil, sn hD⟩
  · rintro i y H' hi ⟨ls, q1, q2, q3, qn, q4⟩
    rw [List.getElem?_map] at hi
    obtain ⟨c, hc, rfl⟩ := Option.map_eq_some_iff.mp hi
    obtain ⟨ws, hw1, hw2⟩ := hra.at hc
    refine hst c H' _ _ ⟨c, ws.map V.str, rfl, .inl (SqL.of (q4 _ _ hw2)), fun l nl => ?_⟩
    have s5 : Same H' (upd H' l (.lst (ws.map V.str))) := sn nl
    have fl : upd H' l (.lst (ws.map V.str)) l = some (.lst (ws.map V.str)) := upd_same
    generalize upd H' l (.lst (ws.map V.str)) = H5 at s5 fl ⊢
    have nlD : l ≠ D := fun q => by
      rw [q, q1] at nl
      cases nl
    have nla : l ∉ ls := fun hx => by
      obtain ⟨y, _, e⟩ := q2.strs hx
      rw [nl] at e
      cases e
    refine ⟨ls.map V.ref, s5 _ _ q1, ?_, ls ++ [l], by rw [upd_same, List.map_append]; rfl, ?_, ?_, ?_, fun b o e => ?_⟩
    · refine small1000 ?_
      rw [List.length_map, q2.len]
      have := List.length_take_le' i rs
      omega
    · have tk2 : rs.take (i + 1) = rs.take i ++ [ws] := by rw [List.take_succ, hw1]; rfl
      rw [tk2]
      refine RowsAt.snoc ((q2.same s5).keep fun x hx o e => ?_) ?_
      · rw [upd_ne (q3 x hx).2]
        exact e
      · rw [upd_ne nlD]
        exact fl
    · intro x hx
      rcases List.mem_append.mp hx with hx | hx
      · exact q3 x hx
      · rw [List.mem_singleton.mp hx]
        exact ⟨q4.free nl, nlD⟩
    · exact List.nodup_append.mpr ⟨qn, List.pairwise_singleton _ _, fun x hx z hz e => nla (by rw [← List.mem_singleton.mp hz, ← e]; exact hx)⟩
    · rw [upd_ne (ne_of_none e hD)]
      exact s5 _ _ (q4 _ _ e)
  · rintro H' ⟨ls, q1, q2, q3, qn, q4⟩
    have lr : (as.map V.ref).length = rs.length := by rw [List.length_map, hra.len]
    rw [lr, List.take_length] at q2
    exact k ls H' q1 q2 q3 qn q4
end K08

set_option maxHeartbeats 4000000
/-! sorted(set(list)) of texts and of ints: a set of keys of one kind whose table can be walked. -/
namespace G1
open PySem PySem.Spec PyProof.Rows L2
/-- keys of one kind, as values -/
structure KX (P : Program) (w : World) (κ : Type) [DecidableEq κ] where
  kd : PySem.KeyKind P w κ
  val : κ → Tok → Value
  key : Value → κ
  is_ : ∀ k t, kd.is k (val k t) = true
  key_ : ∀ k t, key (val k t) = k
  sc : ∀ k t, (val k t).scannable = true
def strX (P : Program) (w : World) : KX P w Str := ⟨strKind P w, .str, fun v => match v with | .str k _ => k | _ => Str.empty, fun k t => strKind_is P w k t, fun _ _ => rfl, fun _ _ => rfl⟩
def intX (P : Program) (w : World) : KX P w Int := ⟨intKind P w, .int, fun v => match v with | .int k _ => k | _ => 0, fun k t => intKind_is P w k t, fun _ _ => rfl, fun _ _ => rfl⟩
section
variable {P : Program} {w : World} {κ : Type} [DecidableEq κ] (X : KX P w κ)
def KX.Good (e : Int × Value) : Prop := ∃ k t, e.2 = X.val k t ∧ e.1 = X.kd.hash k
def KX.ky (e : Int × Value) : κ := X.key e.2
/-- the set at a: M its members, at most m of them -/
def SetM (h : Heap) (a : Addr) (M : κ → Bool) (m : Nat) : Prop :=
  ∃ o es ep t, h.get? a = some o ∧ o.ExactSet ∧ o.data = .set es ep t ∧ (∀ e ∈ es.toList, X.Good e) ∧ (es.toList.map X.ky).Nodup ∧ (∀ k, M k = true ↔ k ∈ es.toList.map X.ky) ∧ es.size < scanBound ∧ t.fits es.size = true ∧ es.size ≤ m ∧
    Ris t.place.toList ∧ (w.params.followText "set-order" = true ∨ t.led = true)
end
section
variable {P : Program} {w : World} {κ : Type} [DecidableEq κ] {X : KX P w κ} {h h' : Heap} {a : Addr} {M : κ → Bool} {m : Nat}
theorem SetM.keep (R : SetM X h a M m) (k : ∀ o, h.get? a = some o → h'.get? a = some o) : SetM X h' a M m := by
  obtain ⟨o, es, ep, t, ho, z⟩ := R
  exact ⟨o, es, ep, t, k o ho, z⟩
theorem SetM.congr {M' : κ → Bool} (R : SetM X h a M m) (e : ∀ k, M' k = M k) : SetM X h a M' m := by
  rw [funext e]
  exact R
theorem KX.is_iff (k j : κ) (t : Tok) : X.kd.is j (X.val k t) = true ↔ k = j :=
  ⟨fun z => X.kd.inj _ _ _ (X.is_ k t) z, fun z => z ▸ X.is_ k t⟩
theorem KX.elems {l : List (Int × Value)} (g : ∀ e ∈ l, X.Good e) : ElemsOf X.kd l := fun e he => by
  obtain ⟨k, t, z1, z2⟩ := g e he
  rw [z1]
  exact ⟨⟨k, X.is_ k t, z2⟩, X.sc k t⟩
theorem KX.mem_iff {l : List (Int × Value)} (g : ∀ e ∈ l, X.Good e) (k : κ) : k ∈ l.map X.ky ↔ ∃ e ∈ l, X.kd.is k e.2 = true := by
  have one : ∀ e ∈ l, (X.ky e = k ↔ X.kd.is k e.2 = true) := fun e he => by
    obtain ⟨j, t, z1, _⟩ := g e he
    unfold KX.ky
    rw [z1, X.key_, X.is_iff]
  rw [List.mem_map]
  exact ⟨fun ⟨e, he, q⟩ => ⟨e, he, (one e he).mp q⟩, fun ⟨e, he, q⟩ => ⟨e, he, (one e he).mpr q⟩⟩
end
section
variable {P : Program} {w : World} {A : Around} {E : Value → Shared → Prop} {s : Shared} {κ : Type} [DecidableEq κ] {X : KX P w κ} {a : Addr} {M : κ → Bool} {m : Nat}
theorem put_at {h : Heap} {o : Obj} {es es' : Array (Int × Value)} {ep : Nat} {t t' : SetTable} (ho : h.get? a = some o) (hd : o.data = .set es ep t) : (h.update a (Obj.putSet es' t')).get? a = some { o with data := .set es' (ep + 1) t' } := by
  have z := Heap.get?_update_self (Obj.putSet es' t') ho (by rw [putSet_of es' t' hd]; rfl)
  rwa [putSet_of es' t' hd] at z
/-- the table is stored, and laid anew where it is too full -/
theorem setM_tail {g : Bool → Sem Unit} (hg : ∀ (b : Bool) (s2 : Shared) (Q2 : Unit → Shared → Prop), Q2 () s2 → wpAny (model P w) A (g b) Q2 E s2) {o : Obj} {es : Array (Int × Value)} {ep : Nat} {t : SetTable} (ho : s.heap.get? a = some o) (hx : o.ExactSet)
    (hd : o.data = .set es ep t) {ea : Array (Int × Value)} {tb : SetTable} {N : κ → Bool} (ga : ∀ e ∈ ea.toList, X.Good e) (da : (ea.toList.map X.ky).Nodup) (ma : ∀ k, N k = true ↔ k ∈ ea.toList.map X.ky) (ba : ea.size < scanBound) (fa : tb.fits ea.size = true)
    (ra : Ris tb.place.toList) (la : w.params.followText "set-order" = true ∨ tb.led = true) {dm : Bool} {R : Option Bool → Shared → Prop} (hR : ∀ h2, Heap.SameBut a s.heap h2 → SetM X h2 a N ea.size → R (some true) { s with heap := h2 }) :
    wpAny (model P w) A (do
        storeSet a ea tb
        if (!dm && tb.tooFull) = true then do
            g (relayAll tb ea (SetTable.grown ea.size)).2.2
            storeSet a (relayAll tb ea (SetTable.grown ea.size)).1 (relayAll tb ea (SetTable.grown ea.size)).2.1
            pure (some true)
          else pure (some true)) R E s := by
  have o1 := put_at (es' := ea) (t' := tb) ho hd
  have b1 := Heap.SameBut.update s.heap a (Obj.putSet ea tb)
  refine wpAny_bind (wpAny_storeSet_of ho hd ?_ (fits_of_scanBound ba))
  split
  · have y1 := relayAll_perm tb ea (SetTable.grown ea.size)
    have y2 := relayAll_fits tb ea (SetTable.grown ea.size)
    have y3 := relayAll_ris tb ea (SetTable.grown ea.size)
    have y4 := relayAll_led tb ea (SetTable.grown ea.size)
    generalize relayAll tb ea (SetTable.grown ea.size) = Y at y1 y2 y3 y4 ⊢
    obtain ⟨eb, tc, gv⟩ := Y
    dsimp only at y1 y2 y3 y4 ⊢
    have sz : eb.size = ea.size := by rw [← Array.length_toList, y1.length_eq, Array.length_toList]
    have bb : eb.size < scanBound := sz ▸ ba
    refine wpAny_bind (hg _ _ _ (wpAny_bind (wpAny_storeSet_of o1 rfl ?_ (fits_of_scanBound bb))))
    refine wpAny_pure (hR _ (b1.trans (Heap.SameBut.update _ a _)) ⟨_, eb, _, tc, put_at (es' := eb) (t' := tc) o1 rfl, hx, rfl, fun e he => ga e (y1.mem_iff.mp he), (y1.map X.ky).nodup_iff.mpr da, fun k => (ma k).trans (y1.map X.ky).mem_iff.symm, bb, y2, Nat.le_of_eq sz, y3, ?_⟩)
    exact la.imp id fun z => y4.trans z
  · exact wpAny_pure (hR _ b1 ⟨_, ea, _, tb, o1, hx, rfl, ga, da, ma, ba, fa, Nat.le_refl _, ra, la⟩)
theorem setM_add {k : κ} {tk : Tok} {Q : Bool → Shared → Prop} (R : SetM X s.heap a M m) (room : m + 1 < scanBound)
    (hQ : ∀ h2 b, Heap.SameBut a s.heap h2 → SetM X h2 a (fun j => M j || decide (j = k)) (m + 1) → Q b { s with heap := h2 }) : wpAny (model P w) A (setAddHashed a (X.val k tk) (X.kd.hash k)) Q E s := by
  obtain ⟨o, es, ep, t, ho, hx, hd, g, dd, hm, hb, hf, hn, hr, hl⟩ := R
  have hk := X.is_ k tk
  have sc := X.sc k tk
  have el := KX.elems g
  unfold setAddHashed setAddHashedIn
  refine wpAny_holding (wpAny_bind (wpAny_setState_of ho hd hf ?_))
  dsimp only
  rw [byScan_of sc hb el]
  simp only [↓reduceIte]
  unfold setAddByScan
  refine wpAny_bind (wpAny_bind (wpAny_rule (wpAny_bind (wpAny_setScan_of hk ho hd hf el ?_))))
  cases fi : List.findIdx? (fun e => X.kd.is k e.2) es.toList with
  | some j =>
    dsimp only
    obtain ⟨lj, pj, _⟩ := List.findIdx?_eq_some_iff_getElem.mp fi
    have Mk : M k = true := (hm k).mpr ((KX.mem_iff g k).mpr ⟨_, List.getElem_mem lj, pj⟩)
    refine wpAny_pure (wpAny_pure (hQ s.heap _ (Heap.SameBut.refl a s.heap) ⟨o, es, ep, t, ho, hx, hd, g, dd, fun i => ?_, hb, hf, Nat.le_succ_of_le hn, hr, hl⟩))
    rw [Bool.or_eq_true, decide_eq_true_eq, ← hm i]
    exact ⟨fun z => z.elim id fun e => e ▸ Mk, .inl⟩
  | none =>
    dsimp only
    have nk : k ∉ es.toList.map X.ky := fun z => by
      obtain ⟨e, he, q⟩ := (KX.mem_iff g k).mp z
      have c := List.findIdx?_eq_none_iff.mp fi e he
      rw [q] at c
      cases c
    have gw : ∀ (b : Bool) {s2 : Shared} {Q2 : Unit → Shared → Prop}, Q2 () s2 → wpAny (model P w) A (match b with | true => rule "set.scan.the-table-gave-way" | false => pure ()) Q2 E s2 := fun b s2 Q2 q => by
      cases b
      · exact wpAny_pure q
      · exact wpAny_rule q
    have y1 := layNew_perm t es (X.kd.hash k) (X.val k tk)
    have y2 := layNew_fits t es (X.kd.hash k) (X.val k tk)
    have y3 := layNew_ris t es (X.kd.hash k) (X.val k tk) hr
    have y4 := layNew_led t es (X.kd.hash k) (X.val k tk)
    generalize layNew t es (X.kd.hash k) (X.val k tk) = Y at y1 y2 y3 y4 ⊢
    obtain ⟨ea, tb, dm, gv⟩ := Y
    dsimp only at y1 y2 y3 y4 ⊢
    rw [Array.toList_push] at y1
    have pc : ea.toList.Perm ((X.kd.hash k, X.val k tk) :: es.toList) := y1.trans (List.perm_append_singleton _ _)
    have kk : X.ky (X.kd.hash k, X.val k tk) = k := X.key_ k tk
    have pk : (ea.toList.map X.ky).Perm (k :: es.toList.map X.ky) := by
      have z := pc.map X.ky
      rw [List.map_cons, kk] at z
      exact z
    have ga : ∀ e ∈ ea.toList, X.Good e := fun e he => by
      rcases List.mem_cons.mp (pc.mem_iff.mp he) with z | z
      · exact z ▸ ⟨k, tk, rfl, rfl⟩
      · exact g e z
    have da : (ea.toList.map X.ky).Nodup := pk.nodup_iff.mpr (List.nodup_cons.mpr ⟨nk, dd⟩)
    have ma : ∀ i, (M i || decide (i = k)) = true ↔ i ∈ ea.toList.map X.ky := fun i => by
      rw [Bool.or_eq_true, decide_eq_true_eq, pk.mem_iff, List.mem_cons, hm i]
      exact Or.comm
    have sz : ea.size = es.size + 1 := by rw [← Array.length_toList, pc.length_eq, List.length_cons, Array.length_toList]
    have ba : ea.size < scanBound := by omega
    have la : w.params.followText "set-order" = true ∨ tb.led = true := hl.imp id fun z => y4.trans z
    have fin : ∀ h2, Heap.SameBut a s.heap h2 → SetM X h2 a (fun j => M j || decide (j = k)) ea.size → Q true { s with heap := h2 } := fun h2 sb z => by
      obtain ⟨o2, e2, p2, t2, z1, z2, z3, z4, z5, z6, z7, z8, z9, z10⟩ := z
      exact hQ h2 _ sb ⟨o2, e2, p2, t2, z1, z2, z3, z4, z5, z6, z7, z8, by omega, z10⟩
    have gw2 : ∀ (b : Bool) (s2 : Shared) (Q2 : Unit → Shared → Prop), Q2 () s2 → wpAny (model P w) A (match b with | true => rule "set.scan.the-table-gave-way" | false => pure ()) Q2 E s2 := fun b s2 Q2 q => gw b q
    refine wpAny_bind (gw _ ?_)
    split
    · refine wpAny_bind ?_
      rw [hashByValue_scannable 8 sc]
      refine wpAny_pure (setM_tail ?_ ho hx hd ga da ma ba ?_ ?_ ?_ ?_)
      · intro b s2 Q2 q
        cases b <;> first | exact wpAny_pure q | exact wpAny_rule q
      · first | (split <;> first | exact y2 | exact SetTable.fits_plain_off y2) | exact y2
      · first | (split <;> exact y3) | exact y3
      · first | (split <;> exact la) | exact la
      · intro h2 sb z
        dsimp only
        exact wpAny_pure (fin h2 sb z)
    · refine wpAny_bind (wpAny_pure ?_)
      simp only [↓reduceIte]
      refine setM_tail ?_ ho hx hd ga da ma ba y2 y3 la ?_
      · intro b s2 Q2 q
        cases b <;> first | exact wpAny_pure q | exact wpAny_rule q
      · intro h2 sb z
        dsimp only
        exact wpAny_pure (fin h2 sb z)
end
/-- the first i of these -/
def memX {κ : Type} [DecidableEq κ] (xs : List κ) (i : Nat) : κ → Bool := fun k => decide (k ∈ xs.take i)
section
variable {P : Program} {w : World} {A : Around} {R : Result → Shared → Prop} {I : Addr} {fp wr : List Addr} {G : Array GenState → Array GenState → Prop} {n : Nat} {Pv : Nat → Value → Prop} {St : Nat → Shared → Prop} {κ : Type} [DecidableEq κ] {X : KX P w κ}
theorem loopX (W : WalksS P w A.in1 I fp wr G n Pv St) {a : Addr} (na : a ∉ fp) {xs : List κ} (len : xs.length = n) (hb : n + 1 < scanBound) (hv : ∀ i v, Pv i v → ∃ k t, xs[i]? = some k ∧ v = X.val k t) (m : Nat) :
    ∀ (i : Nat) (s : Shared), i + m = n → St i s → SetM X s.heap a (memX xs i) i → (∀ s2, Moved (a :: wr) G s s2 → SetM X s2.heap a (memX xs n) n → R (.ok (.ret .none)) s2) →
      codeAny (model P w) A (.builtin "set.update.loop" ⟨[.ref a, .ref I], []⟩) R s := by
  have nw : a ∉ wr := fun z => na (W.sub _ z)
  have up : ∀ b ∈ wr, b ∈ a :: wr := fun _ z => List.mem_cons_of_mem _ z
  induction m with
  | zero =>
    intro i s e hst hS k
    obtain rfl : i = n := by omega
    refine codeAny_builtin PyProof.Rows.F.entry_set_update_loop ?_
    rw [Around.under_plainId PyProof.Rows.F.plain_set_update_loop _]
    exact wpAny_bind (W.done s _ _ hst fun s2 hm => wpAny_pure (k s2 (hm.mono up) (hS.keep fun o => hm.heap a o nw)))
  | succ m ih =>
    intro i s e hst hS k
    have lt : i < n := by omega
    refine codeAny_builtin PyProof.Rows.F.entry_set_update_loop ?_
    rw [Around.under_plainId PyProof.Rows.F.plain_set_update_loop _]
    refine wpAny_bind (W.item i s _ _ lt hst fun v s2 hP hst2 hm => ?_)
    obtain ⟨z, t, hz, rfl⟩ := hv i v hP
    have hS1 := hS.keep fun o => hm.heap a o nw
    show wpAny _ A.in1 (holding [X.val z t] (setAdd a (X.val z t)) >>= _) _ _ s2
    refine wpAny_bind (wpAny_holding (by
      unfold setAdd
      refine wpAny_holding (wpAny_bind (X.kd.pyHash (X.is_ z t) ?_))
      refine setM_add (s := { s2 with toks := s2.toks + 1 }) hS1 (by omega) fun h2 b sb hS2 => ?_
      have hS3 : SetM X h2 a (memX xs (i + 1)) (i + 1) := hS2.congr fun y => by
        unfold memX
        rw [List.take_succ, hz, Bool.eq_iff_iff, Bool.or_eq_true, decide_eq_true_iff, decide_eq_true_iff, decide_eq_true_iff, List.mem_append]
        simp
      refine wpAny_pure ⟨plainId_quiet PyProof.Rows.F.plain_set_update_loop _, ih (i + 1) _ (by omega) ?_ hS3 fun s3 hm2 hS4 => k s3 (Moved.trans W.gtrans ((hm.mono up).then_heap (Nat.le_succ _) fun c o hc q => ?_) hm2) hS4⟩
      · exact W.frame _ s2 _ _ hst2 (Nat.le_succ _) fun c hc o q => (sb.2 c fun y => na (y ▸ hc)).trans q
      · exact (sb.2 c fun y => hc (y ▸ List.mem_cons_self)).trans q))
end
section
variable {P : Program} {w : World} {A : Around} {E : Value → Shared → Prop} {s : Shared} {κ : Type} [DecidableEq κ] {X : KX P w κ}
abbrev bareSet (w : World) : Obj := { cls := .type "set", dict := none, data := .set #[] 0 (.fresh 0 0 (!w.params.followText "set-order")) }
theorem bare_new (v : Value) {Q : Value → Shared → Prop} (h : Q (.ref s.heap.objs.size) { s with heap := s.heap.push (bareSet w) }) : codeAny (model P w) A (.call (.builtin "set.__new__") ⟨[.type "set", v], []⟩) (wants Q E) s := by
  refine codeAny_of_tree (show wpAny _ A.in1 (do checkBuiltinCall "set.__new__" ⟨[.type "set", v], []⟩; again (.builtin "set.__new__" ⟨[.type "set", v], []⟩)) _ _ s from ?_)
  refine wpAny_bind (wpAny_of_eq (PySem.F.newCall_set_1 v) (wpAny_pure ⟨plainId_quiet PySem.F.plain_set_new _, codeAny_builtin PySem.F.entry_set_new ?_⟩))
  rw [Around.under_plainId PySem.F.plain_set_new _]
  unfold Builtin.«set.__new__» Builtin.Frozenset.newClass
  have hself := sub_set_self
  obtain ⟨hp, gg, dr, tk, os⟩ := s
  dsimp only
  wp_walk
  refine wpAny_askSetting (wpAny_pure ?_)
  dsimp only
  simp only [newObj]
  exact wpAny_bind (wpAny_alloc (wpAny_pure (wpAny_pure h)))
theorem bare_is {h : Heap} : SetM X (h.push (bareSet w)) h.objs.size (fun _ => false) 0 :=
  ⟨_, #[], 0, _, Heap.get?_push_size _ rfl, ⟨rfl, rfl, rfl⟩, rfl, fun e he => by simp at he, by simp, fun k => by simp, by decide, by rfl, Nat.le_refl _, List.Pairwise.nil, by
    show _ ∨ (!w.params.followText "set-order") = true
    cases w.params.followText "set-order" <;> simp⟩
/-- what set(l) leaves behind -/
def LeftX (X : KX P w κ) (s : Shared) (xs : List κ) (h2 : Heap) : Prop := SetM X h2 s.heap.objs.size (fun k => decide (k ∈ xs)) xs.length ∧ ∀ b o, b < s.heap.objs.size → s.heap.get? b = some o → h2.get? b = some o
theorem call_setX {l : Addr} {items : Array Value} {xs : List κ} {Q : Value → Shared → Prop} (hh : A.handled = none) (hl : s.heap.IsList l items) (len : xs.length = items.size) (hi : ∀ (i : Nat) (v : Value), items[i]? = some v → ∃ k t, xs[i]? = some k ∧ v = X.val k t) (hb : xs.length + 1 < scanBound)
    (k : ∀ (h2 : Heap) (tk : Nat), LeftX X s xs h2 → Q (.ref s.heap.objs.size) { s with heap := h2, toks := tk }) : wpAny (model P w) A (call (.type "set") [.ref l]) Q E s := by
  obtain ⟨cT, tT, hmro⟩ := PySem.F.called_set.mro
  have y1 := PySem.F.called_set.made
  have y2 := PySem.F.called_set.sub
  have y3 := PySem.F.called_set.notType
  have y4 := PySem.F.called_set.canCreate
  have y5 := PySem.F.typeCall_set_1 (.ref l)
  refine wpAny_call (codeAny_of_tree (show wpAny _ _ (callAny (.type "set") _) _ _ _ from wpAny_pure ⟨Code.quiet_builtin _ (by decide +kernel), codeAny_builtin PySem.F.entry_type_call ?_⟩))
  rw [Around.under_plain (weight_type_call_type "set" [.ref l] []) rfl]
  repeat (any_goals (first | assumption | wp_step))
  refine codeAny_mono (bare_new (.ref l) (E := E) (Q := fun obj s1 => obj = .ref s.heap.objs.size ∧ s1 = { s with heap := s.heap.push (bareSet w) }) ⟨rfl, rfl⟩) fun r s1 hr => ?_
  match r, hr with
  | .error e, hr => exact hr
  | .ok (.ret obj), hr =>
    obtain ⟨rfl, rfl⟩ := hr
    have hS : (s.heap.push (bareSet w)).get? s.heap.objs.size = some (bareSet w) := Heap.get?_push_size _ rfl
    have hT : Shared.TypeIs { s with heap := s.heap.push (bareSet w) } (.ref s.heap.objs.size) "set" := ⟨_, hS, rfl⟩
    have i1 := PySem.F.called_set.init.lookup
    have i2 := PySem.F.called_set.init.bind (.ref s.heap.objs.size)
    repeat (any_goals (first | assumption | wp_step))
    refine codeAny_mono (codeAny_call_builtin (R := wants (fun r s2 => r = .none ∧ ∃ h2 tk, s2 = { s with heap := h2, toks := tk } ∧ LeftX X s xs h2) E) PySem.F.called_set.init.plain PySem.F.entry_set_init (check_set_init_1 hT ?_)) fun r2 s2 hr2 => ?_
    · obtain ⟨⟨oc, od, dt, osl⟩, ho, hc, nl, hd⟩ := hl
      dsimp only at hc hd
      subst hc hd
      have lt : l < s.heap.objs.size := Heap.lt_size ho
      have L1 : (s.heap.push (bareSet w)).IsList l items := ⟨_, Heap.get?_push_of_some _ ho, rfl, nl, rfl⟩
      have z1 := PySem.F.sub_list_set
      have z2 := PySem.F.sub_list_frozenset
      have z3 : (Value.type "list" == Value.type "dict") = false := by decide
      have ho1 : (s.heap.push (bareSet w)).get? l = some { cls := .type "list", dict := od, data := .seq items nl, slots := osl } := Heap.get?_push_of_some _ ho
      unfold Builtin.«set.__init__» noKeywords Builtin.Frozenset.updateFrom
      generalize hPI : pyIter = PI
      wp_walk
      subst hPI
      refine wpAny_pyIter_list L1 (wpAny_bind (wpAny_runValue ?_))
      have ne1 : l ≠ (s.heap.push (bareSet w)).objs.size := by
        rw [Heap.size_push]
        exact Nat.ne_of_lt (Nat.lt_succ_of_lt lt)
      have ne2 : s.heap.objs.size ∉ [(s.heap.push (bareSet w)).objs.size, l] := by
        rw [Heap.size_push]
        simp only [List.mem_cons, List.not_mem_nil, or_false, not_or]
        exact ⟨Nat.ne_of_lt (Nat.lt_succ_self _), Nat.ne_of_gt lt⟩
      refine loopX (X := X) ((Walks.list (by simp [hh]) _ l ne1 items).toS) ne2 len (by rw [← len]; exact hb) (fun i v e => hi i v e) items.size 0 _ (by omega) ⟨⟨_, Heap.get?_push_size _ rfl, rfl, rfl⟩, L1.push _⟩ ?_ ?_
      · exact SetM.congr (SetM.keep (bare_is (X := X) (h := s.heap)) fun o e => Heap.get?_push_of_some _ e) fun y => by unfold memX; simp
      · intro s2 hm hS2
        obtain ⟨h2, g2, d2, tk2, os2⟩ := s2
        obtain rfl : g2 = s.gens := hm.gens
        obtain rfl : d2 = s.drawn := hm.drawn
        obtain rfl : os2 = s.os := hm.os
        rw [← len] at hS2
        refine wpAny_pure (wpAny_pure ⟨rfl, h2, tk2, rfl, hS2.congr fun y => by unfold memX; rw [List.take_length], fun b o lb e => hm.heap b o ?_ (Heap.get?_push_of_some _ (Heap.get?_push_of_some _ e))⟩)
        simp only [List.mem_cons, List.not_mem_nil, or_false, not_or]
        rw [Heap.size_push]
        exact ⟨Nat.ne_of_lt lb, Nat.ne_of_lt (Nat.lt_succ_of_lt lb)⟩
    · match r2, hr2 with
      | .error e, hr2 => exact hr2
      | .ok (.ret r), hr2 =>
        obtain ⟨rfl, h2, tk, rfl, left⟩ := hr2
        repeat (any_goals (first | assumption | wp_step))
        exact k _ _ left
/-- sorted of such a set -/
theorem sorted_X {a : Addr} {M : κ → Bool} {m : Nat} {Q : Value → Shared → Prop} {Sd : List Value → List κ → Prop} (R : SetM X s.heap a M m) (hh : A.handled = none)
    (srt : ∀ (s2 : Shared) (l : Addr) (vs : List Value) (ks : List κ) (nn : Nat) (Z : Fin → Shared → Prop), s2.heap.get? l = some (seqObj "list" vs.toArray nn) → vs.length ≤ sizeLine → ks.length = vs.length → (∀ (i : Nat) (v : Value), vs[i]? = some v → ∃ k t, ks[i]? = some k ∧ v = X.val k t) →
      (∀ (out : Array Value) (ks2 : List κ), Sd out.toList ks2 → ks2.Perm ks → Z (.done (.ret .none)) { s2 with heap := sortedHeap s2.heap l vs out }) → wpAny (model P w) (A.in1.under (.builtin "list.sort" ⟨[.ref l], []⟩)) (Builtin.«list.sort» ⟨[.ref l], []⟩) Z E s2)
    (hQ : ∀ s2 p (out : Array Value) (c : Nat) (ks : List κ), (∀ b o, s.heap.get? b = some o → s2.heap.get? b = some o) → s2.gens = s.gens → s2.os = s.os → s.heap.objs.size ≤ p → s2.heap.get? p = some (seqObj "list" out c) → Sd out.toList ks → ks.Nodup →
      (∀ k, k ∈ ks ↔ M k = true) → ks.length ≤ m → Q (.ref p) s2) : wpAny (model P w) A (call (.builtin "sorted") [.ref a]) Q E s := by
  obtain ⟨o, es, ep, t, ho, hx, hd, g, dd, hm, hb, hf, hn, hr, hl⟩ := R
  refine Calls.call_function_entry kind_sorted plain_sorted entry_sorted (args_sorted1 _) ?_
  unfold Builtin.«sorted»
  refine wpAny_bind (m := checkCount "sorted" 1 1 _) (wpAny_pure ?_)
  refine wpAny_bind (collect_set (A := A.in1) hh ⟨o, ho, hx.1, hd⟩ hf hb hr hl fun s2 vs k2 z2 g2 o2 pm => ?_)
  have lv : vs.length = es.size := by rw [pm.length_eq, List.length_map, Array.length_toList]
  have lz : vs.length ≤ sizeLine := by
    rw [lv, sizeLine_eq]
    have : es.size < 4096 := hb
    omega
  have each : ∀ (i : Nat) (v : Value), vs[i]? = some v → ∃ k t, (vs.map X.key)[i]? = some k ∧ v = X.val k t := fun i v e => by
    obtain ⟨x, hx1, q⟩ := List.mem_map.mp (pm.mem_iff.mp (List.mem_of_getElem? e))
    obtain ⟨j, tj, q1, _⟩ := g x hx1
    refine ⟨j, tj, ?_, q.symm.trans q1⟩
    rw [List.getElem?_map, e, ← q, q1]
    show some (X.key (X.val j tj)) = some j
    rw [X.key_]
  have pk : (vs.map X.key).Perm (es.toList.map X.ky) := by
    have q := pm.map X.key
    rw [List.map_map] at q
    exact q
  refine wpAny_bind (wpAny_newList ?_ lz)
  have oL : (s2.heap.push (seqObj "list" vs.toArray 0)).get? s2.heap.objs.size = some (seqObj "list" vs.toArray 0) := Heap.get?_push_size _ rfl
  refine wpAny_bind (wpAny_holding (wpAny_call_entry slot_list_sort ⟨_, oL, rfl⟩ entry_list_sort (srt _ _ vs (vs.map X.key) 0 _ oL lz (by rw [List.length_map]) each fun out ks2 y1 y2 => ⟨_, rfl, ?_⟩) (args_list_sort _)))
  obtain ⟨c, hc⟩ := sortedHeap_at (vs := vs) (out := out) oL
  have pn := y2.trans pk
  refine wpAny_pure ⟨_, rfl, hQ _ s2.heap.objs.size out c ks2 (fun b u e => ?_) g2 o2 z2 hc y1 (pn.nodup_iff.mpr dd) (fun k => by rw [pn.mem_iff, ← hm k]) ?_⟩
  · have lt := Heap.lt_size (k2 b u e)
    show (sortedHeap (s2.heap.push (seqObj "list" vs.toArray 0)) s2.heap.objs.size vs out).get? b = some u
    rw [sortedHeap_old (Nat.ne_of_lt lt) (by rw [size_push']; exact Nat.lt_succ_of_lt lt)]
    exact Heap.get?_push_of_some _ (k2 b u e)
  · rw [pn.length_eq, List.length_map, Array.length_toList]
    exact hn
end
end G1

set_option maxHeartbeats 4000000
namespace G1
open PySem PySem.Spec PyProof.Rows L2
theorem strs_each {P : Program} {w : World} : ∀ {vs : List Value} {ks : List Str}, ks.length = vs.length → (∀ (i : Nat) (v : Value), vs[i]? = some v → ∃ k t, ks[i]? = some k ∧ v = (strX P w).val k t) → StrsAre vs ks
  | [], [], _, _ => .nil
  | v :: vs, k :: ks, l, h => by
    obtain ⟨j, t, e1, e2⟩ := h 0 v rfl
    have e3 : k = j := by simpa using e1
    subst e3
    rw [e2]
    exact .cons k t (strs_each (by simpa using l) fun i v e => by simpa using h (i + 1) v (by simpa using e))
  | [], _ :: _, l, _ => by simp at l
  | _ :: _, [], l, _ => by simp at l
theorem ints_each {P : Program} {w : World} : ∀ {vs : List Value} {ks : List Int}, ks.length = vs.length → (∀ (i : Nat) (v : Value), vs[i]? = some v → ∃ k t, ks[i]? = some k ∧ v = (intX P w).val k t) → IntsAre vs ks
  | [], [], _, _ => .nil
  | v :: vs, k :: ks, l, h => by
    obtain ⟨j, t, e1, e2⟩ := h 0 v rfl
    have e3 : k = j := by simpa using e1
    subst e3
    rw [e2]
    exact .cons k t (ints_each (by simpa using l) fun i v e => by simpa using h (i + 1) v (by simpa using e))
  | [], _ :: _, l, _ => by simp at l
  | _ :: _, [], l, _ => by simp at l
theorem rel_each_str {P : Program} {w : World} : ∀ {xs : List Str} {us : List Value}, Vals (xs.map V.str) us → ∀ (i : Nat) (v : Value), us[i]? = some v → ∃ k t, xs[i]? = some k ∧ v = (strX P w).val k t
  | [], _, .nil, i, v, e => by simp at e
  | x :: xs, u :: us, .cons r t, i, v, e => by
    match i, e with
    | 0, e =>
      obtain ⟨k, q⟩ := r
      cases e
      exact ⟨x, k, rfl, q⟩
    | i + 1, e => exact rel_each_str t i v (by simpa using e)
theorem rel_each_int {P : Program} {w : World} : ∀ {xs : List Int} {us : List Value}, Vals (xs.map V.int) us → ∀ (i : Nat) (v : Value), us[i]? = some v → ∃ k t, xs[i]? = some k ∧ v = (intX P w).val k t
  | [], _, .nil, i, v, e => by simp at e
  | x :: xs, u :: us, .cons r t, i, v, e => by
    match i, e with
    | 0, e =>
      obtain ⟨k, q⟩ := r
      cases e
      exact ⟨x, k, rfl, q⟩
    | i + 1, e => exact rel_each_int t i v (by simpa using e)
section
variable {X : Cx}
/-- sorted(set(xs)) of texts -/
def tSortS (K : PySem.W.Frag) (ta : TE) : TE := fun σ H Q => ta σ H fun x H1 => ∃ l, ∃ xs : List Str, x = .ref l ∧ SqL K H1 l (xs.map V.str) ∧ xs.length ≤ 1000 ∧
  ∀ (ys : List Str) (p : Addr), sortedS ys = true → ys.Nodup → (∀ z, z ∈ ys ↔ z ∈ xs) → ys.length ≤ xs.length → H1 p = none → Q (.ref p) (upd H1 p (.lst (ys.map V.str)))
/-- sorted(set(xs)) of ints -/
def tSortI (K : PySem.W.Frag) (ta : TE) : TE := fun σ H Q => ta σ H fun x H1 => ∃ l, ∃ xs : List Int, x = .ref l ∧ SqL K H1 l (xs.map V.int) ∧ xs.length ≤ 1000 ∧
  ∀ (ys : List Int) (p : Addr), ys.Pairwise (· ≤ ·) → ys.Nodup → (∀ z, z ∈ ys ↔ z ∈ xs) → ys.length ≤ xs.length → H1 p = none → Q (.ref p) (upd H1 p (.lst (ys.map V.int)))
theorem pe_sortS {a : Expr} {ta : TE} {p p2 q pos : Pos} (hc : X.calm = true) (g1 : Gl X "sorted") (m1 : X.mg "sorted" = none) (g2 : Gl X "set") (m2 : X.mg "set" = none) (ha : PE X a ta) (na : starEach [a] X.env = (false, eval a X.env) :: starEach [] X.env := by rfl) :
    PE X (.Call (.Name "sorted" p) [.Call (.Name "set" p2) [a] [] q] [] pos) (tSortS X.K ta) := by
  refine ⟨fun pins s σ H Q I h => Call_ (ld_blt I g1 m1 (show bootBuiltins "sorted" = some (.builtin "sorted") by decide +kernel) (callWith_builtin1 (args_cons (Call_ (ld_blt I g2 m2 boot_set ?_)) rfl) rfl rfl))⟩
  refine callWith_type1 (args_cons (thn (ha.run pins s σ H _ I h) fun v s1 ⟨x, H1, I1, r1, q1⟩ => args_nil ?_) na) na rfl
  obtain ⟨l, xs, rfl, hq, hb, q1⟩ := q1
  cases r1
  obtain ⟨its, r, pl, hz⟩ := I1.list hq
  have len : xs.length = its.toArray.size := by
    have := r.length
    rw [List.length_map] at this
    simpa using this
  refine call_setX (X := strX X.prog X.w) (I1.ok.hd hc) pl.isList (xs := xs) len (fun i v e => rel_each_str r i v (by simpa using e)) (by unfold scanBound; omega) fun h2 tk left => args_nil ?_
  obtain ⟨R, keep⟩ := left
  have I2 : Inv X pins σ H1 { s1 with heap := h2, toks := tk } := I1.kept fun b o e => keep b o (Heap.lt_size e) e
  refine sorted_X (s := { s1 with heap := h2, toks := tk }) (Sd := fun out ks => StrsAre out ks ∧ sortedS ks = true) R (I1.ok.hd hc) (fun s2 l2 vs ks nn Z ho hL hl he z => ?_) fun s2 p2 out c ks k2 g2 o2 hp hg hs hn hm hle => ?_
  · have hS : StrsAre vs ks := strs_each hl he
    refine list_sort_treeKAny strKind_oneLt ho hS.keysOf (fun v1 v2 rest e => keyKind_strs (by rw [← e]; exact hS)) hL fun st hp hs => ?_
    obtain ⟨ss, h1, h2, h3⟩ := sorted_out_str hS hp hs
    exact z _ ss ⟨h1, h3⟩ h2
  · have hn1 : H1 p2 = none := I2.hok.fresh hp
    have hlen : (ks.map V.str).length ≤ sizeLine := by rw [List.length_map, sizeLine_eq]; omega
    have J : Inv X pins σ (upd H1 p2 (.lst (ks.map V.str))) s2 :=
      I2.call' (ch := []) o2 (Un.laid k2 hp hn1) (I2.hok.laid k2 hp ⟨hlen, out.toList, c, vals_of_strs hs.1, by simpa using hg⟩) (by rw [g2]; exact I2.bare) (fun _ z => nomatch z)
    exact ⟨.ref p2, _, J, rfl, q1 ks p2 hs.2 hn (fun z => by rw [hm z, decide_eq_true_iff]) hle hn1⟩
theorem pe_sortI {a : Expr} {ta : TE} {p p2 q pos : Pos} (hc : X.calm = true) (g1 : Gl X "sorted") (m1 : X.mg "sorted" = none) (g2 : Gl X "set") (m2 : X.mg "set" = none) (ha : PE X a ta) (na : starEach [a] X.env = (false, eval a X.env) :: starEach [] X.env := by rfl) :
    PE X (.Call (.Name "sorted" p) [.Call (.Name "set" p2) [a] [] q] [] pos) (tSortI X.K ta) := by
  refine ⟨fun pins s σ H Q I h => Call_ (ld_blt I g1 m1 (show bootBuiltins "sorted" = some (.builtin "sorted") by decide +kernel) (callWith_builtin1 (args_cons (Call_ (ld_blt I g2 m2 boot_set ?_)) rfl) rfl rfl))⟩
  refine callWith_type1 (args_cons (thn (ha.run pins s σ H _ I h) fun v s1 ⟨x, H1, I1, r1, q1⟩ => args_nil ?_) na) na rfl
  obtain ⟨l, xs, rfl, hq, hb, q1⟩ := q1
  cases r1
  obtain ⟨its, r, pl, hz⟩ := I1.list hq
  have len : xs.length = its.toArray.size := by
    have := r.length
    rw [List.length_map] at this
    simpa using this
  refine call_setX (X := intX X.prog X.w) (I1.ok.hd hc) pl.isList (xs := xs) len (fun i v e => rel_each_int r i v (by simpa using e)) (by unfold scanBound; omega) fun h2 tk left => args_nil ?_
  obtain ⟨R, keep⟩ := left
  have I2 : Inv X pins σ H1 { s1 with heap := h2, toks := tk } := I1.kept fun b o e => keep b o (Heap.lt_size e) e
  refine sorted_X (s := { s1 with heap := h2, toks := tk }) (Sd := fun out ks => IntsAre out ks ∧ ks.Pairwise (· ≤ ·)) R (I1.ok.hd hc) (fun s2 l2 vs ks nn Z ho hL hl he z => ?_) fun s2 p2 out c ks k2 g2 o2 hp hg hs hn hm hle => ?_
  · exact list_sort_treeAny ho (ints_each hl he) hL fun out ns h1 h2 h3 => z out ns ⟨h1, h3⟩ h2
  · have hn1 : H1 p2 = none := I2.hok.fresh hp
    have hlen : (ks.map V.int).length ≤ sizeLine := by rw [List.length_map, sizeLine_eq]; omega
    have J : Inv X pins σ (upd H1 p2 (.lst (ks.map V.int))) s2 :=
      I2.call' (ch := []) o2 (Un.laid k2 hp hn1) (I2.hok.laid k2 hp ⟨hlen, out.toList, c, vals_of_ints hs.1, by simpa using hg⟩) (by rw [g2]; exact I2.bare) (fun _ z => nomatch z)
    exact ⟨.ref p2, _, J, rfl, q1 ks p2 hs.2 hn (fun z => by rw [hm z, decide_eq_true_iff]) hle hn1⟩
end
end G1

set_option maxHeartbeats 8000000
namespace K08
open PySem PySem.Spec PyProof.Rows L2 G1
/-- a statement that is never come to -/
theorem ps_never {X : Cx} {st : Stmt} : PS X st (fun _ _ _ => False) := ⟨fun _ _ _ _ _ _ h => h.elim⟩
/-- a comprehension over zip of two lists, the second one no longer -/
theorem lc_zip {K : PySem.W.Frag} {a b : Addr} {xs ys : List V} {g : TG} {tt : TT} {te : TE} {vs : List Nat} {σ : L2.St} {H1 : Hp} {D : Addr} {Qd : Hp → Prop} (hl : ys.length ≤ xs.length) (Pv : Nat → Hp → Prop) (h0 : Pv 0 (upd H1 D (.lst []))) (hq : ∀ i H, Pv i H → SqL K H a xs ∧ SqL K H b ys)
    (hs : ∀ (i : Nat) (x y : V) (T : Addr) (H : Hp), xs[i]? = some x → ys[i]? = some y → Pv i H → H T = none → g (.ref T) (wipe σ vs) (upd H T (.tup [x, y])) fun σ2 H2 => wipe σ2 vs = wipe σ vs ∧ tt σ2 H2 fun b H3 =>
      if b = true then te σ2 H3 fun y H4 => ∃ acc, H4 D = some (.lst acc) ∧ acc.length < sizeLine ∧ Pv (i + 1) (upd H4 D (.lst (acc ++ [y]))) else Pv (i + 1) H3) (hd : ∀ H, Pv ys.length H → Qd H) :
    ∃ W : Nat → Nat → Hp → Prop, (∃ m, W 0 m (upd H1 D (.lst []))) ∧ ∀ i m H, W i m H →
      ((Itz K a b).stop i H ∧ Qd H) ∨ ((Itz K a b).go i H ∧ ∃ Nx : Hp → Prop, (∀ H', Nx H' → ∃ m', m' < m ∧ W (i + 1) m' H') ∧ ∀ v H', (Itz K a b).yld i H v H' → g v (wipe σ vs) H' fun σ2 H2 => wipe σ2 vs = wipe σ vs ∧ tt σ2 H2 fun b H3 =>
        if b = true then te σ2 H3 fun y H4 => ∃ acc, H4 D = some (.lst acc) ∧ acc.length < sizeLine ∧ Nx (upd H4 D (.lst (acc ++ [y]))) else Nx H3) := by
  refine ⟨fun i m H => m = ys.length - i ∧ i ≤ ys.length ∧ Pv i H, ⟨ys.length, rfl, Nat.zero_le _, h0⟩, ?_⟩
  rintro i m H ⟨rfl, hi, p⟩
  obtain ⟨qx, qy⟩ := hq i H p
  by_cases lt : i < ys.length
  · have e1 : xs[i]? = some (xs[i]'(by omega)) := List.getElem?_eq_getElem _
    have e2 : ys[i]? = some ys[i] := List.getElem?_eq_getElem lt
    refine .inr ⟨⟨xs, ys, _, _, qx, qy, e1, e2⟩, Pv (i + 1), fun H' z => ⟨ys.length - (i + 1), by omega, rfl, lt, z⟩, fun v H' z => ?_⟩
    obtain ⟨T, x, y, rfl, nT, rfl, f1, f2⟩ := z
    exact hs i x y T H (f1 xs qx) (f2 ys qy) p nT
  · have e : i = ys.length := by omega
    exact .inl ⟨⟨xs, ys, qx, qy, .inr (by omega)⟩, hd H (e ▸ p)⟩
/-- .. over enumerate of a list -/
theorem lc_enum {K : PySem.W.Frag} {a : Addr} {xs : List V} {g : TG} {tt : TT} {te : TE} {vs : List Nat} {σ : L2.St} {H1 : Hp} {D : Addr} {Qd : Hp → Prop} (Pv : Nat → Hp → Prop) (h0 : Pv 0 (upd H1 D (.lst []))) (hq : ∀ i H, Pv i H → SqL K H a xs)
    (hs : ∀ (i : Nat) (x : V) (T : Addr) (H : Hp), xs[i]? = some x → Pv i H → H T = none → g (.ref T) (wipe σ vs) (upd H T (.tup [.int (i : Nat), x])) fun σ2 H2 => wipe σ2 vs = wipe σ vs ∧ tt σ2 H2 fun b H3 =>
      if b = true then te σ2 H3 fun y H4 => ∃ acc, H4 D = some (.lst acc) ∧ acc.length < sizeLine ∧ Pv (i + 1) (upd H4 D (.lst (acc ++ [y]))) else Pv (i + 1) H3) (hd : ∀ H, Pv xs.length H → Qd H) :
    ∃ W : Nat → Nat → Hp → Prop, (∃ m, W 0 m (upd H1 D (.lst []))) ∧ ∀ i m H, W i m H →
      ((Ite K a).stop i H ∧ Qd H) ∨ ((Ite K a).go i H ∧ ∃ Nx : Hp → Prop, (∀ H', Nx H' → ∃ m', m' < m ∧ W (i + 1) m' H') ∧ ∀ v H', (Ite K a).yld i H v H' → g v (wipe σ vs) H' fun σ2 H2 => wipe σ2 vs = wipe σ vs ∧ tt σ2 H2 fun b H3 =>
        if b = true then te σ2 H3 fun y H4 => ∃ acc, H4 D = some (.lst acc) ∧ acc.length < sizeLine ∧ Nx (upd H4 D (.lst (acc ++ [y]))) else Nx H3) := by
  refine ⟨fun i m H => m = xs.length - i ∧ i ≤ xs.length ∧ Pv i H, ⟨xs.length, rfl, Nat.zero_le _, h0⟩, ?_⟩
  rintro i m H ⟨rfl, hi, p⟩
  have qx := hq i H p
  by_cases lt : i < xs.length
  · have e1 : xs[i]? = some xs[i] := List.getElem?_eq_getElem lt
    refine .inr ⟨⟨xs, _, qx, e1⟩, Pv (i + 1), fun H' z => ⟨xs.length - (i + 1), by omega, rfl, lt, z⟩, fun v H' z => ?_⟩
    obtain ⟨T, x, rfl, nT, rfl, f1⟩ := z
    exact hs i x T H (f1 xs qx) p nT
  · have e : i = xs.length := by omega
    exact .inl ⟨⟨xs, qx, by omega⟩, hd H (e ▸ p)⟩
theorem cut1 {xs : List V} : cutV xs (some (1 : Int)) none = xs.drop 1 := by
  cases xs with
  | nil => rfl
  | cons x xs => exact cutV_from (by simp)
/-- one text ahead of another one -/
def ltB (a b : Str) : Bool := decide (a.cps.toList < b.cps.toList)
def ascB (zs : List Str) : Bool := (zs.zip (zs.drop 1)).all fun p => ltB p.1 p.2
def lotB (xs zs : List Str) : Bool := zs.all (fun z => decide (z ∈ xs)) && ascB zs
def spAsc (K : PySem.W.Frag) : Sp := fun vs H Q _ => ∃ (a : Addr) (zs : List Str), vs = [.ref a] ∧ SqL K H a (zs.map V.str) ∧ zs.length ≤ 1000 ∧ ∀ H', Same H H' → Q (.bl (ascB zs)) H'
def spIsLot (K : PySem.W.Frag) : Sp := fun vs H Q _ => ∃ (n v : Addr) (xs zs : List Str), vs = [.ref n, .ref v] ∧ SqL K H n (xs.map V.str) ∧ H v = some (.lst (zs.map V.str)) ∧ zs.length ≤ 1000 ∧ ∀ H', Same H H' → Q (.bl (lotB xs zs)) H'
def spIsField (K : PySem.W.Frag) : Sp := fun vs H Q _ => ∃ (n v : Addr) (xs zs : List Str), vs = [.ref n, .ref v] ∧ SqL K H n (xs.map V.str) ∧ H v = some (.lst (zs.map V.str)) ∧ zs.length ≤ 1000 ∧ ∀ H', Same H H' → Q (.bl (lotB xs zs && decide (0 < zs.length))) H'
def spChkF (K : PySem.W.Frag) : Sp := fun vs H Q _ => ∃ (n v : Addr) (xs zs : List Str), vs = [.ref n, .ref v] ∧ SqL K H n (xs.map V.str) ∧ H v = some (.lst (zs.map V.str)) ∧ zs.length ≤ 1000 ∧ lotB xs zs = true ∧ 0 < zs.length ∧ ∀ H', Same H H' → Q .non H'
def spChkN (K : PySem.W.Frag) : Sp := fun vs H Q _ => ∃ (n : Addr) (xs : List Str) (z : Str), vs = [.ref n, .str z] ∧ SqL K H n (xs.map V.str) ∧ z ∈ xs ∧ Q .non H
def spIsCount : Sp := fun vs H Q _ => ∃ i : Int, vs = [.int i] ∧ Q (.bl (decide (0 ≤ i))) H
def spChkAt : Sp := fun vs H Q _ => ∃ m i : Int, vs = [.int m, .int i] ∧ 0 ≤ i ∧ i < m ∧ Q .non H
def spChkP (C : Addr) : Sp := fun vs H Q _ => ∃ (a dx : Addr) (fs : List (Str × V)), vs = [.ref a] ∧ H a = some (.ins C dx fs) ∧ Q .non H
structure LibZ (mg : Str → Option Value) : Prop where
  zip : mg "zip" = none
  enum : mg "enumerate" = none
  int : mg "int" = none
  bool : mg "bool" = none
section
variable {P : Program} {w : World} {K : PySem.W.Frag} {mg : Str → Option Value} {base : Heap} {C : Addr}
abbrev sAsc : Stmt := top 15
abbrev nAsc : List Str := ["values", "low", "high"]
theorem scAsc : FnScope nAsc ["values"] (defScope sAsc) := ⟨rfl, rfl, rfl, by decide +kernel, rfl, by decide +kernel, by decide +kernel⟩
theorem ok_asc {f : Addr} {fd : FuncData} (F : FnP K "is_ascending" sAsc f fd) (LP : LibP mg) (LZ : LibZ mg) : FnOk P w K mg base CX0 1 f fd ["values"] (spAsc K) := by
  refine okN F scAsc (fun vs H Q E h => ?_) (fun cdv A outer s H vs Q E hr h => ?_)
  · obtain ⟨_, _, rfl, _⟩ := h
    rfl
  · obtain ⟨a, zs, rfl, hS, hl, k⟩ := h
    refine ⟨_, pss_one (ps_ret (pe_callB (cr_all rfl) (by rfl) LP.all (by decide +kernel) (pa_cons
      (pe_lc (own := [("low", 1), ("high", 2)]) (g := gTup K 2 (gCons (gName 1) (gCons (gName 2) gNil))) (tt := tYes) (te := tOp (fun x y H Q => ∃ i j, x = .str i ∧ y = .str j ∧ Q (.bl (decide (i.cps.toList < j.cps.toList))) H) (tVar 1) (tVar 2)) rfl scAsc.nd
        (pi_zip (by rfl) LZ.zip (pa_cons (pv 0) (pa_cons (pe_slice sl_list (pv 0) (po_some pe_int) po_none) pa_nil)))
        (blkOk_by (N := nAsc) (sc := defScope sAsc) (by decide +kernel)) (fun _ _ _ _ _ => pg_tup (n := 2) (by rfl) (pgs_cons (pg_name (i := 1) scAsc.nd rfl (Or.inl rfl)) (pgs_cons (pg_name (i := 2) scAsc.nd rfl (Or.inl rfl)) pgs_nil))) (fun _ _ _ _ _ => pts_nil)
        (fun _ _ _ _ _ => pe_cmpR op_lt_str (pv 1) (pv 2) (by rfl))) pa_nil))), ?_⟩
    refine ⟨_, rfl, _, rfl, _, rfl, a, _, rfl, hS, fun c nc => ?_⟩
    rw [cut1, ← List.map_drop]
    have s1 : Same H (upd H c (.lst ((zs.drop 1).map V.str))) := sn nc
    have fc : upd H c (.lst ((zs.drop 1).map V.str)) c = some (.lst ((zs.drop 1).map V.str)) := upd_same
    generalize upd H c (.lst ((zs.drop 1).map V.str)) = H1 at s1 fc ⊢
    refine ⟨a, c, _, _, rfl, s1.seq hS, SqL.of fc, fun D hD => lc_zip (K := K) (a := a) (b := c) (xs := zs.map V.str) (ys := (zs.drop 1).map V.str) (by simp)
      (fun i H' => H' D = some (.lst (((zs.zip (zs.drop 1)).take i).map fun p => V.bl (ltB p.1 p.2))) ∧ Same H1 H') ⟨upd_same, sn hD⟩ (fun i H' h => ⟨(s1.trans h.2).seq hS, SqL.of (h.2 _ _ fc)⟩) ?_ ?_⟩
    · rintro i x y T H' hx hy ⟨q1, q2⟩ nT
      rw [List.getElem?_map] at hx hy
      obtain ⟨z1, h1, rfl⟩ := Option.map_eq_some_iff.mp hx
      obtain ⟨z2, h2, rfl⟩ := Option.map_eq_some_iff.mp hy
      have hz : (zs.zip (zs.drop 1))[i]? = some (z1, z2) := by
        rw [List.getElem?_zip_eq_some]
        exact ⟨h1, h2⟩
      refine ⟨T, _, rfl, SqT.of upd_same, rfl, _, _, rfl, _, _, rfl, rfl, rfl, _, rfl, _, rfl, _, _, rfl, rfl, ?_⟩
      refine ⟨_, (sn nT) _ _ q1, ?_, ?_, fun b o e => ?_⟩
      · refine small1000 ?_
        rw [List.length_map]
        have := List.length_take_le' i (zs.zip (zs.drop 1))
        rw [List.length_zip] at this
        omega
      · rw [upd_same, List.take_succ, hz, List.map_append]
        rfl
      · rw [upd_ne (ne_of_none e hD)]
        exact (sn nT) _ _ (q2 _ _ e)
    · rintro H' ⟨q1, q2⟩
      have ln : ((zs.drop 1).map V.str).length = (zs.zip (zs.drop 1)).length := by
        rw [List.length_map, List.length_zip, List.length_drop]
        omega
      rw [ln, List.take_length] at q1
      refine ⟨D, (zs.zip (zs.drop 1)).map fun p => ltB p.1 p.2, rfl, SqL.of (by rw [q1, List.map_map]; rfl), ?_⟩
      rw [List.all_map]
      exact k H' (s1.trans q2)
abbrev sIsLot : Stmt := top 17
theorem scIsLot : FnScope ["entries", "value", "name"] ["entries", "value"] (defScope sIsLot) := ⟨rfl, rfl, rfl, by decide +kernel, rfl, by decide +kernel, by decide +kernel⟩
theorem ok_isLot {f fA : Addr} {fd fdA : FuncData} (F : FnP K "is_lot" sIsLot f fd) (LP : LibP mg) (FA : FnP K "is_ascending" sAsc fA fdA) (gA : mg "is_ascending" = some (.ref fA)) (GA : FnOk P w K mg base CX0 1 fA fdA ["values"] (spAsc K)) : FnOk P w K mg base CX0 2 f fd ["entries", "value"] (spIsLot K) := by
  have bA : Binds K fdA ["values"] [] := FA.bindsN fun _ _ _ _ _ _ us hl => match us, hl with | [_], _ => rfl
  refine okN F scIsLot (fun vs H Q E h => ?_) (fun cdv A outer s H vs Q E hr h => ?_)
  · obtain ⟨_, _, _, _, rfl, _⟩ := h
    rfl
  · obtain ⟨n, v, xs, zs, rfl, hn, hv, hl, k⟩ := h
    refine ⟨_, pss_cons (ps_if (pt_not (pt_val (pe_callB call_isi (by rfl) LP.isi (by decide +kernel) (pa_cons (pv 1) (pa_cons (pe_bltn (v := .ty "list") (by rfl) LP.list (by decide +kernel) rfl) pa_nil))))) (pss_one (ps_ret pe_bl)) pss_nil)
      (pss_one (ps_ret (pe_and (pe_callB (cr_all rfl) (by rfl) LP.all (by decide +kernel) (pa_cons
          (pe_lc (own := [("name", 2)]) (g := gName 2) (tt := tYes) (te := tOp (rIn K false) (tVar 2) (tVar 0)) rfl scIsLot.nd (pi_list (pv 1))
            (blkOk_by (N := ["entries", "value", "name"]) (sc := defScope sIsLot) (by decide +kernel)) (fun _ _ _ _ _ => pg_name (i := 2) scIsLot.nd rfl (Or.inl rfl)) (fun _ _ _ _ _ => pts_nil)
            (fun _ _ _ _ _ => pe_cmpR op_in_seq (pv 2) (pv 0) (by rfl))) pa_nil))
        (pe_one (pe_call GA hr (by rfl) gA FA.kp bA .nil pass0 (pa_cons (pv 1) pa_nil)))))), ?_⟩
    refine ⟨_, rfl, .ref v, .ty "list", .type "list", .type "list", true, rfl, .ty _, .base (.lst hv), kit_ty (by decide +kernel), true, rfl, iteF ?_⟩
    refine ⟨_, rfl, v, rfl, ⟨_, SqL.of hv⟩, fun D hD => lc_list (K := K) (a := v) (xs := zs.map V.str) (fun i H' => H' D = some (.lst ((zs.take i).map fun z => V.bl (decide (z ∈ xs)))) ∧ Same H H') ⟨upd_same, sn hD⟩ (fun i H' _ h => SqL.of (h.2 _ _ hv)) ?_ ?_⟩
    · rintro i y H' hi ⟨q1, q2⟩
      rw [List.getElem?_map] at hi
      obtain ⟨z, hz, rfl⟩ := Option.map_eq_some_iff.mp hi
      refine ⟨rfl, _, rfl, _, rfl, n, xs.map V.str, rfl, .inl (q2.seq hn), rfl, flat_strs, _, q1, ?_, ?_, fun b o e => ?_⟩
      · refine small1000 ?_
        rw [List.length_map]
        have := List.length_take_le' i zs
        omega
      · rw [upd_same, List.take_succ, hz, List.map_append, inV_str]
        rfl
      · rw [upd_ne (ne_of_none e hD)]
        exact q2 _ _ e
    · rintro H' ⟨q1, q2⟩
      rw [List.length_map, List.take_length] at q1
      refine ⟨D, zs.map fun z => decide (z ∈ xs), rfl, SqL.of (by rw [q1, List.map_map]; rfl), _, rfl, ?_⟩
      rw [List.all_map]
      refine ite2 (fun h1 => ?_) (fun h1 => ?_)
      · refine ⟨_, rfl, v, zs, rfl, SqL.of (q2 _ _ hv), hl, fun H2 s2 => ?_⟩
        have e : lotB xs zs = ascB zs := by
          unfold lotB
          rw [show zs.all (fun z => decide (z ∈ xs)) = true from h1, Bool.true_and]
        rw [← e]
        exact k H2 (q2.trans s2)
      · have e : lotB xs zs = false := by
          unfold lotB
          rw [show zs.all (fun z => decide (z ∈ xs)) = false from Bool.eq_false_iff.mpr h1, Bool.false_and]
        rw [e] at k
        exact k H' q2
abbrev sIsField : Stmt := top 18
theorem scIsField : FnScope ["entries", "value"] ["entries", "value"] (defScope sIsField) := ⟨rfl, rfl, rfl, by decide +kernel, rfl, by decide +kernel, by decide +kernel⟩
theorem ok_isField {f fA : Addr} {fd fdA : FuncData} (F : FnP K "is_field" sIsField f fd) (L : Lib K mg) (FA : FnP K "is_lot" sIsLot fA fdA) (gA : mg "is_lot" = some (.ref fA)) (GA : FnOk P w K mg base CX0 2 fA fdA ["entries", "value"] (spIsLot K)) : FnOk P w K mg base CX0 3 f fd ["entries", "value"] (spIsField K) := by
  have bA : Binds K fdA ["entries", "value"] [] := FA.bindsN fun _ _ _ _ _ _ us hl => match us, hl with | [_, _], _ => rfl
  refine okN F scIsField (fun vs H Q E h => ?_) (fun cdv A outer s H vs Q E hr h => ?_)
  · obtain ⟨_, _, _, _, rfl, _⟩ := h
    rfl
  · obtain ⟨n, v, xs, zs, rfl, hn, hv, hl, k⟩ := h
    refine ⟨_, pss_one (ps_ret (pe_and (pe_call GA hr (by rfl) gA FA.kp bA .nil pass0 (pa_cons (pv 0) (pa_cons (pv 1) pa_nil))) (pe_one (pe_cmpR op_gt (pe_callB call_len_seq (by rfl) L.len PySem.boot_len (pa_cons (pv 1) pa_nil)) pe_int (nomark _))))), ?_⟩
    refine ⟨_, rfl, _, rfl, n, v, xs, zs, rfl, hn, hv, hl, fun H1 s1 => ⟨_, rfl, ?_⟩⟩
    cases e : lotB xs zs with
    | false =>
      rw [e] at k
      exact iteF (k H1 s1)
    | true =>
      refine iteT ⟨_, rfl, v, _, rfl, .inl (SqL.of (s1 _ _ hv)), _, _, rfl, rfl, ?_⟩
      rw [List.length_map]
      have e2 : decide ((0 : Int) < (zs.length : Int)) = decide (0 < zs.length) := by
        by_cases q : 0 < zs.length
        · rw [decide_eq_true q, decide_eq_true (by omega)]
        · rw [decide_eq_false q, decide_eq_false (by omega)]
      rw [e, Bool.true_and, ← e2] at k
      exact k H1 s1
abbrev sChkF : Stmt := top 26
theorem scChkF : FnScope ["entries", "field"] ["entries", "field"] (defScope sChkF) := ⟨rfl, rfl, rfl, by decide +kernel, rfl, by decide +kernel, by decide +kernel⟩
theorem ok_chkF {f fA : Addr} {fd fdA : FuncData} (F : FnP K "check_field" sChkF f fd) (FA : FnP K "is_field" sIsField fA fdA) (gA : mg "is_field" = some (.ref fA)) (GA : FnOk P w K mg base CX0 3 fA fdA ["entries", "value"] (spIsField K)) : FnOk P w K mg base CX0 4 f fd ["entries", "field"] (spChkF K) := by
  have bA : Binds K fdA ["entries", "value"] [] := FA.bindsN fun _ _ _ _ _ _ us hl => match us, hl with | [_, _], _ => rfl
  refine okN F scChkF (fun vs H Q E h => ?_) (fun cdv A outer s H vs Q E hr h => ?_)
  · obtain ⟨_, _, _, _, rfl, _⟩ := h
    rfl
  · obtain ⟨n, v, xs, zs, rfl, hn, hv, hl, h1, h2, k⟩ := h
    refine ⟨_, pss_one (ps_if (pt_not (pt_val (pe_call GA hr (by rfl) gA FA.kp bA .nil pass0 (pa_cons (pv 0) (pa_cons (pv 1) pa_nil))))) (pss_one ps_never) pss_nil), ?_⟩
    refine ⟨_, rfl, _, rfl, n, v, xs, zs, rfl, hn, hv, hl, fun H1 s1 => ⟨_, rfl, ?_⟩⟩
    rw [h1, decide_eq_true h2]
    exact k H1 s1
abbrev sChkN : Stmt := top 24
theorem scChkN : FnScope ["entries", "entry"] ["entries", "entry"] (defScope sChkN) := ⟨rfl, rfl, rfl, by decide +kernel, rfl, by decide +kernel, by decide +kernel⟩
theorem ok_chkN {f : Addr} {fd : FuncData} (F : FnP K "check_entry" sChkN f fd) : FnOk P w K mg base CX0 1 f fd ["entries", "entry"] (spChkN K) := by
  refine okN F scChkN (fun vs H Q E h => ?_) (fun cdv A outer s H vs Q E hr h => ?_)
  · obtain ⟨_, _, _, rfl, _⟩ := h
    rfl
  · obtain ⟨n, xs, z, rfl, hn, hz, k⟩ := h
    refine ⟨_, pss_one (ps_if (pt_cmpR op_notIn_seq (pv 1) (pv 0) (by rfl)) (pss_one ps_never) pss_nil), ?_⟩
    refine ⟨_, rfl, _, rfl, n, xs.map V.str, rfl, .inl hn, rfl, flat_strs, ?_⟩
    rw [if_pos rfl, inV_str, decide_eq_true hz]
    exact ⟨_, rfl, k⟩
abbrev sIsCount : Stmt := top 14
theorem scIsCount : FnScope ["value"] ["value"] (defScope sIsCount) := ⟨rfl, rfl, rfl, by decide +kernel, rfl, by decide +kernel, by decide +kernel⟩
theorem ok_isCount {f : Addr} {fd : FuncData} (F : FnP K "is_count" sIsCount f fd) (LP : LibP mg) (LZ : LibZ mg) : FnOk P w K mg base CX0 1 f fd ["value"] spIsCount := by
  refine okN F scIsCount (fun vs H Q E h => ?_) (fun cdv A outer s H vs Q E hr h => ?_)
  · obtain ⟨_, rfl, _⟩ := h
    rfl
  · obtain ⟨i, rfl, k⟩ := h
    refine ⟨_, pss_one (ps_ret (pe_and (pe_callB call_isi (by rfl) LP.isi (by decide +kernel) (pa_cons (pv 0) (pa_cons (pe_bltn (v := .ty "int") (by rfl) LZ.int (by decide +kernel) rfl) pa_nil)))
      (pe_and (pe_not (pe_callB call_isi (by rfl) LP.isi (by decide +kernel) (pa_cons (pv 0) (pa_cons (pe_bltn (v := .ty "bool") (by rfl) LZ.bool (by decide +kernel) rfl) pa_nil)))) (pe_one (pe_cmpR op_ge (pv 0) pe_int (nomark _)))))), ?_⟩
    refine ⟨_, rfl, .int i, .ty "int", .type "int", .type "int", true, rfl, .ty _, .base (.int i), kit_ty (by decide +kernel), true, rfl, iteT ?_⟩
    refine ⟨_, rfl, .int i, .ty "bool", .type "int", .type "bool", false, rfl, .ty _, .base (.int i), kit_ty (by decide +kernel), _, rfl, _, rfl, iteT ?_⟩
    exact ⟨_, rfl, _, _, rfl, rfl, k⟩
abbrev sChkAt : Stmt := top 25
theorem scChkAt : FnScope ["many", "at"] ["many", "at"] (defScope sChkAt) := ⟨rfl, rfl, rfl, by decide +kernel, rfl, by decide +kernel, by decide +kernel⟩
theorem ok_chkAt {f fA : Addr} {fd fdA : FuncData} (F : FnP K "check_position" sChkAt f fd) (FA : FnP K "is_count" sIsCount fA fdA) (gA : mg "is_count" = some (.ref fA)) (GA : FnOk P w K mg base CX0 1 fA fdA ["value"] spIsCount) : FnOk P w K mg base CX0 2 f fd ["many", "at"] spChkAt := by
  have bA : Binds K fdA ["value"] [] := FA.bindsN fun _ _ _ _ _ _ us hl => match us, hl with | [_], _ => rfl
  refine okN F scChkAt (fun vs H Q E h => ?_) (fun cdv A outer s H vs Q E hr h => ?_)
  · obtain ⟨_, _, rfl, _⟩ := h
    rfl
  · obtain ⟨m, i, rfl, h0, h1, k⟩ := h
    refine ⟨_, pss_one (ps_if (PW.pt (pw_or (pt_not (pt_val (pe_call GA hr (by rfl) gA FA.kp bA .nil pass0 (pa_cons (pv 1) pa_nil)))) (pw_or1 (pt_cmpR op_ge (pv 1) (pv 0) (nomark _))))) (pss_one ps_never) pss_nil), ?_⟩
    refine ⟨_, rfl, i, rfl, ?_⟩
    rw [decide_eq_true h0]
    refine ⟨_, rfl, _, rfl, _, rfl, _, _, rfl, rfl, ?_⟩
    exact ⟨_, rfl, ite2 (fun q => absurd (of_decide_eq_true q) (by omega)) fun _ => k⟩
abbrev sChkP : Stmt := top 30
theorem scChkP : FnScope ["panel"] ["panel"] (defScope sChkP) := ⟨rfl, rfl, rfl, by decide +kernel, rfl, by decide +kernel, by decide +kernel⟩
theorem ok_chkP {f : Addr} {fd : FuncData} (F : FnP K "check_panel" sChkP f fd) (LP : LibP mg) (PC : PanX K C) (gP : mg "Panel" = some (.ref C)) : FnOk P w K mg base CX0 1 f fd ["panel"] (spChkP C) := by
  refine okN F scChkP (fun vs H Q E h => ?_) (fun cdv A outer s H vs Q E hr h => ?_)
  · obtain ⟨_, _, _, rfl, _⟩ := h
    rfl
  · obtain ⟨a, dx, fs, rfl, ha, k⟩ := h
    refine ⟨_, pss_one (ps_if (pt_not (pt_val (pe_callB call_isi (by rfl) LP.isi (by decide +kernel) (pa_cons (pv 0) (pa_cons (pe_glob (v := .ref C) (by rfl) gP rfl) pa_nil))))) (pss_one ps_never) pss_nil), ?_⟩
    exact ⟨_, rfl, .ref a, .ref C, .ref C, .ref C, true, rfl, .own C, .base (.ins ha PC.cls PC.cc PC.sg PC.tk PC.mo), PC.me, _, rfl, k⟩
end
end K08

set_option maxHeartbeats 8000000
namespace K08
open PySem PySem.Spec PyProof.Rows L2 G1
/-- the first one of a row that is in a field -/
def fst? (fs r : List Str) : Option Str := r.find? fun y => decide (y ∈ fs)
def fstD (fs r : List Str) : Str := (fst? fs r).getD Str.empty
theorem find_at {p : Str → Bool} : ∀ {r : List Str} {i : Nat} {y : Str}, (r.take i).find? p = none → r[i]? = some y → p y = true → r.find? p = some y
  | [], _, _, _, e, _ => by simp at e
  | x :: r, 0, y, _, e, h => by
    have e2 : x = y := by simpa using e
    rw [e2, List.find?_cons_of_pos h]
  | x :: r, i + 1, y, n, e, h => by
    rw [List.take_succ_cons] at n
    have px : p x = false := by
      cases q : p x with
      | false => rfl
      | true =>
        rw [List.find?_cons_of_pos q] at n
        cases n
    rw [List.find?_cons_of_neg (by rw [px]; exact Bool.false_ne_true)] at n ⊢
    exact find_at n (by simpa using e) h
theorem find_next {p : Str → Bool} {r : List Str} {i : Nat} {y : Str} (n : (r.take i).find? p = none) (e : r[i]? = some y) (h : p y = false) : (r.take (i + 1)).find? p = none := by
  rw [List.take_succ, e, List.find?_append, n]
  show List.find? p [y] = none
  rw [List.find?_cons_of_neg (by rw [h]; exact Bool.false_ne_true)]
  rfl
theorem fst_some {fs r : List Str} {z : Str} (h1 : z ∈ r) (h2 : z ∈ fs) : ∃ y, fst? fs r = some y := by
  cases e : fst? fs r with
  | some y => exact ⟨y, rfl⟩
  | none =>
    have := List.find?_eq_none.mp e z h1
    exact absurd (decide_eq_true h2) this
theorem fst_mem {fs r : List Str} {z : Str} (h : fst? fs r = some z) : z ∈ r ∧ z ∈ fs := by
  have h2 : r.find? (fun y => decide (y ∈ fs)) = some z := h
  have h3 := List.find?_some h2
  exact ⟨List.mem_of_find?_eq_some h2, of_decide_eq_true h3⟩
theorem fstD_of {fs r : List Str} {z : Str} (h : fst? fs r = some z) : fstD fs r = z := by
  unfold fstD
  rw [h]
  rfl
def spFirst (K : PySem.W.Frag) : Sp := fun vs H Q _ => ∃ (r f : Addr) (rs fs : List Str) (z : Str), vs = [.ref r, .ref f] ∧ SqL K H r (rs.map V.str) ∧ SqL K H f (fs.map V.str) ∧ fst? fs rs = some z ∧ Q (.str z) H
def spCardsOn (K : PySem.W.Frag) : Sp := fun vs H Q _ => ∃ (R f : Addr) (as : List Addr) (rs : List (List Str)) (fs : List Str), vs = [.ref R, .ref f] ∧ H R = some (.lst (as.map V.ref)) ∧ RowsAt H as rs ∧ SqL K H f (fs.map V.str) ∧ (∀ r ∈ rs, ∃ z, fst? fs r = some z) ∧ rs.length ≤ 60 ∧
  ∀ (ys : List Str) (D : Addr) (H' : Hp), Same H H' → H D = none → H' D = some (.lst (ys.map V.str)) → sortedS ys = true → ys.Nodup → (∀ z, z ∈ ys ↔ z ∈ rs.map (fstD fs)) → ys.length ≤ rs.length → Q (.ref D) H'
/-- a panel of xs, rs, whose methods can be called -/
structure PanF (H : Hp) (C a : Addr) (xs : List Str) (rs : List (List Str)) : Prop where
  at_ : PanelAt H C a xs rs
  fre : Fre H C a
  le : rs.length ≤ 60
theorem PanF.same {H H' : Hp} {C a : Addr} {xs : List Str} {rs : List (List Str)} (h : PanF H C a xs rs) (s : Same H H') : PanF H' C a xs rs := ⟨h.at_.same s, h.fre.same s, h.le⟩
/-- a field that is right -/
structure FieldAt (H : Hp) (f : Addr) (xs fs : List Str) : Prop where
  at_ : H f = some (.lst (fs.map V.str))
  lot : lotB xs fs = true
  pos : 0 < fs.length
  le : fs.length ≤ 1000
theorem FieldAt.same {H H' : Hp} {f : Addr} {xs fs : List Str} (h : FieldAt H f xs fs) (s : Same H H') : FieldAt H' f xs fs := ⟨s _ _ h.at_, h.lot, h.pos, h.le⟩
theorem FieldAt.sub {H : Hp} {f : Addr} {xs fs : List Str} (h : FieldAt H f xs fs) {z : Str} (hz : z ∈ fs) : z ∈ xs := by
  have q := h.lot
  unfold lotB at q
  exact of_decide_eq_true (List.all_eq_true.mp (He.ba q).1 z hz)
theorem FieldAt.fst {H : Hp} {f : Addr} {xs fs r : List Str} (h : FieldAt H f xs fs) (p : r.Perm xs) : ∃ z, fst? fs r = some z := by
  cases fs with
  | nil => exact absurd h.pos (by simp)
  | cons z fs => exact fst_some (p.mem_iff.mpr (h.sub List.mem_cons_self)) List.mem_cons_self
def spNamed (C : Addr) : Sp := fun vs H Q _ => ∃ (a f : Addr) (i : Nat) (xs fs : List Str) (rs : List (List Str)) (r : List Str) (z : Str), vs = [.ref a, .int (i : Int), .ref f] ∧ PanF H C a xs rs ∧ FieldAt H f xs fs ∧ rs[i]? = some r ∧ fst? fs r = some z ∧ ∀ H', Same H H' → Q (.str z) H'
def spCards (C : Addr) : Sp := fun vs H Q _ => ∃ (a f : Addr) (xs fs : List Str) (rs : List (List Str)), vs = [.ref a, .ref f] ∧ PanF H C a xs rs ∧ FieldAt H f xs fs ∧ (∀ r ∈ rs, r.Perm xs) ∧
  ∀ (ys : List Str) (D : Addr) (H' : Hp), Same H H' → H D = none → H' D = some (.lst (ys.map V.str)) → sortedS ys = true → ys.Nodup → (∀ z, z ∈ ys ↔ z ∈ rs.map (fstD fs)) → ys.length ≤ rs.length → Q (.ref D) H'
/-- at whose rows the first one is z -/
def whoL (fs : List Str) (rs : List (List Str)) (z : Str) : List Nat := (List.range rs.length).filter fun j => decide (fstD fs (rs.getD j []) = z)
def natsV (ns : List Nat) : List V := ns.map fun (j : Nat) => V.int (j : Int)
def spWho (C : Addr) : Sp := fun vs H Q _ => ∃ (a f : Addr) (xs fs : List Str) (rs : List (List Str)) (z : Str), vs = [.ref a, .ref f, .str z] ∧ PanF H C a xs rs ∧ FieldAt H f xs fs ∧ (∀ r ∈ rs, r.Perm xs) ∧ z ∈ xs ∧
  ∀ (D : Addr) (H' : Hp), Same H H' → H D = none → H' D = some (.lst (natsV (whoL fs rs z))) → Q (.ref D) H'
def spAhead (C : Addr) : Sp := fun vs H Q _ => ∃ (a : Addr) (i : Nat) (xs : List Str) (rs : List (List Str)) (r : List Str) (z : Str), vs = [.ref a, .int (i : Int), .str z] ∧ PanF H C a xs rs ∧ rs[i]? = some r ∧ r.length ≤ 60 ∧ z ∈ xs ∧ z ∈ r ∧
  ∀ (ys : List Str) (D : Addr) (H' : Hp), Same H H' → H D = none → H' D = some (.lst (ys.map V.str)) → sortedS ys = true → ys.Perm (r.take (r.idxOf z)) → Q (.ref D) H'
def spPlaces (C : Addr) : Sp := fun vs H Q _ => ∃ (a : Addr) (xs : List Str) (rs : List (List Str)) (z : Str), vs = [.ref a, .str z] ∧ PanF H C a xs rs ∧ (∀ r ∈ rs, z ∈ r) ∧ z ∈ xs ∧
  ∀ (D : Addr) (H' : Hp), Same H H' → H D = none → H' D = some (.lst (natsV (rs.map fun r => r.idxOf z))) → Q (.ref D) H'
/-- row.index(z) -/
theorem idx_ok {r : List Str} {z : Str} (hz : z ∈ r) : (r.map V.str)[r.idxOf z]? = some (.str z) ∧ eqV (.str z) (.str z) = true ∧ ∀ (m : Nat) (y : V), m < r.idxOf z → (r.map V.str)[m]? = some y → eqV y (.str z) = false := by
  have lt := List.idxOf_lt_length_of_mem hz
  refine ⟨?_, ?_, fun m y lm e => ?_⟩
  · rw [List.getElem?_map, List.getElem?_eq_getElem lt, List.getElem_idxOf lt]
    rfl
  · show ((z == z : Bool)) = true
    exact beq_self_eq_true z
  · rw [List.getElem?_map] at e
    obtain ⟨x, hx, rfl⟩ := Option.map_eq_some_iff.mp e
    show ((x == z : Bool)) = false
    have lm2 : m < r.length := by omega
    rw [List.getElem?_eq_getElem lm2] at hx
    have hx2 : r[m] = x := Option.some.inj hx
    have := List.not_of_lt_findIdx (p := (· == z)) (xs := r) lm
    rw [← hx2]
    simpa using this
section
variable {P : Program} {w : World} {K : PySem.W.Frag} {mg : Str → Option Value} {base : Heap} {C fLn : Addr} {fdLn : FuncData}
abbrev sFirst : Stmt := top 31
theorem scFirst : FnScope ["row", "field", "name"] ["row", "field"] (defScope sFirst) := ⟨rfl, rfl, rfl, by decide +kernel, rfl, by decide +kernel, by decide +kernel⟩
theorem ok_first {f : Addr} {fd : FuncData} (F : FnP K "first_there" sFirst f fd) : FnOk P w K mg base CX0 1 f fd ["row", "field"] (spFirst K) := by
  refine okN F scFirst (fun vs H Q E h => ?_) (fun cdv A outer s H vs Q E hr h => ?_)
  · obtain ⟨_, _, _, _, _, rfl, _⟩ := h
    rfl
  · obtain ⟨r, f, rs, fs, z, rfl, hR, hF, hz, k⟩ := h
    refine ⟨_, pss_cons (ps_for PassesOwn.never rfl (pi_list (pv 0)) (pg_name (i := 2) scFirst.nd rfl (Or.inl rfl)) (pss_one (ps_if (pt_cmpR op_in_seq (pv 2) (pv 1) (by rfl)) (pss_one (ps_ret (pv 2))) pss_nil))) (pss_one ps_never), ?_⟩
    refine ⟨_, rfl, r, rfl, ⟨_, hR⟩, for_list (K := K) (a := r) (xs := rs.map V.str) (fun i σ H' => H' = H ∧ (∃ o, σ = [some (.ref r), some (.ref f), o]) ∧ (rs.take i).find? (fun y => decide (y ∈ fs)) = none) ⟨rfl, ⟨none, rfl⟩, rfl⟩ (fun i σ H' _ h => by rw [h.1]; exact hR) ?_ ?_⟩
    · rintro i y σ H' hi ⟨rfl, ⟨o, rfl⟩, n⟩
      rw [List.getElem?_map] at hi
      obtain ⟨x, hx, rfl⟩ := Option.map_eq_some_iff.mp hi
      refine ⟨_, rfl, _, rfl, f, fs.map V.str, rfl, .inl hF, rfl, flat_strs, _, rfl, ?_⟩
      rw [if_neg Bool.false_ne_true, inV_str]
      refine ite2 (fun e => ?_) (fun e => ?_)
      · have q : fst? fs rs = some x := find_at n hx e
        rw [hz] at q
        cases q
        exact ⟨_, rfl, k⟩
      · exact ⟨rfl, ⟨_, rfl⟩, find_next n hx (Bool.eq_false_iff.mpr e)⟩
    · rintro σ H' ⟨rfl, _, n⟩
      rw [List.length_map, List.take_length] at n
      have q : fst? fs rs = none := n
      rw [hz] at q
      cases q
abbrev sCardsOn : Stmt := top 32
theorem scCardsOn : FnScope ["rows", "field", "row"] ["rows", "field"] (defScope sCardsOn) := ⟨rfl, rfl, rfl, by decide +kernel, rfl, by decide +kernel, by decide +kernel⟩
theorem ok_cardsOn {f fF : Addr} {fd fdF : FuncData} (F : FnP K "cards_on" sCardsOn f fd) (LP : LibP mg) (FF : FnP K "first_there" sFirst fF fdF) (gF : mg "first_there" = some (.ref fF)) (GF : FnOk P w K mg base CX0 1 fF fdF ["row", "field"] (spFirst K)) :
    FnOk P w K mg base CX0 2 f fd ["rows", "field"] (spCardsOn K) := by
  have bF : Binds K fdF ["row", "field"] [] := FF.bindsN fun _ _ _ _ _ _ us hl => match us, hl with | [_, _], _ => rfl
  refine okN F scCardsOn (fun vs H Q E h => ?_) (fun cdv A outer s H vs Q E hr h => ?_)
  · obtain ⟨_, _, _, _, _, rfl, _⟩ := h
    rfl
  · obtain ⟨R, f, as, rs, fs, rfl, hR, hra, hF, hz, le, k⟩ := h
    refine ⟨_, pss_one (ps_ret (pe_sortS (by rfl) (by rfl) LP.sorted (by rfl) LP.set
        (pe_lc (own := [("row", 2)]) (g := gName 2) (tt := tYes) (te := tCall (spFirst K) [] E0 (tCons (tVar 2) (tCons (tVar 1) tNil))) rfl scCardsOn.nd (pi_list (pv 0))
          (blkOk_by (N := ["rows", "field", "row"]) (sc := defScope sCardsOn) (by decide +kernel)) (fun _ _ _ _ _ => pg_name (i := 2) scCardsOn.nd rfl (Or.inl rfl)) (fun _ _ _ _ _ => pts_nil)
          (fun _ _ _ _ _ => pe_call GF hr (by rfl) gF FF.kp bF .nil pass0 (pa_cons (pv 2) (pa_cons (pv 1) pa_nil)))))), ?_⟩
    refine ⟨_, rfl, R, rfl, ⟨_, SqL.of hR⟩, fun D hD => lc_list (K := K) (a := R) (xs := as.map V.ref) (fun i H' => H' D = some (.lst (((rs.take i).map (fstD fs)).map V.str)) ∧ Same H H') ⟨upd_same, sn hD⟩ (fun i H' _ h => SqL.of (h.2 _ _ hR)) ?_ ?_⟩
    · rintro i y H' hi ⟨q1, q2⟩
      rw [List.getElem?_map] at hi
      obtain ⟨c, hc, rfl⟩ := Option.map_eq_some_iff.mp hi
      obtain ⟨r, hr1, hr2⟩ := hra.at hc
      obtain ⟨z, hz1⟩ := hz r (List.mem_of_getElem? hr1)
      refine ⟨rfl, _, rfl, _, rfl, c, f, r, fs, z, rfl, SqL.of (q2 _ _ hr2), q2.seq hF, hz1, _, q1, ?_, ?_, fun b o e => ?_⟩
      · refine small1000 ?_
        rw [List.length_map, List.length_map]
        have := List.length_take_le' i rs
        omega
      · rw [upd_same, List.take_succ, hr1, List.map_append, List.map_append]
        show _ = some (HO.lst (_ ++ [V.str (fstD fs r)]))
        rw [fstD_of hz1]
      · rw [upd_ne (ne_of_none e hD)]
        exact q2 _ _ e
    · rintro H' ⟨q1, q2⟩
      rw [List.length_map, hra.len, List.take_length] at q1
      refine ⟨D, rs.map (fstD fs), rfl, SqL.of q1, by rw [List.length_map]; omega, fun ys p so nd hm ly np => ?_⟩
      rw [List.length_map] at ly
      exact k ys p _ (q2.trans (sn np)) (q2.free np) upd_same so nd hm ly
end
end K08

set_option maxHeartbeats 8000000
namespace K08
open PySem PySem.Spec PyProof.Rows L2 G1
/-- a def of the text, where it stands, what it promises -/
structure Df (P : Program) (w : World) (K : PySem.W.Frag) (mg : Str → Option Value) (base : Heap) (k : Nat) (x : Str) (st : Stmt) (ps : List Str) (sp : Sp) : Prop where
  ex : ∃ (f : Addr) (fd : FuncData), FnP K x st f fd ∧ mg x = some (.ref f) ∧ FnOk P w K mg base CX0 k f fd ps sp ∧ Binds K fd ps []
theorem pe_df {X : Cx} {k : Nat} {x : Str} {st : Stmt} {ps : List Str} {sp : Sp} {e : Expr} {es : List Expr} {t : TA} {p pos : Pos} (D : Df X.prog X.w X.K X.mg X.base k x st ps sp) (hr : Room k X.A) (hg : Gl X x) (ha : PA X (e :: es) t)
    (hdb : (x == ("__debug__" : Str)) = false := by decide) (he : starEach (e :: es) X.env = (false, eval e X.env) :: starEach es X.env := by rfl) (hpl : (backTo pos (starEach es X.env)).any (·.1) = false := by rfl) :
    PE X (.Call (.Name x p) (e :: es) [] pos) (tCall sp [] E0 t) := by
  obtain ⟨f, fd, F, g, G, b⟩ := D.ex
  exact pe_call G hr hg g F.kp b .nil pass0 ha hdb he hpl
theorem pe_df0 {X : Cx} {k : Nat} {x : Str} {st : Stmt} {ps : List Str} {sp : Sp} {p pos : Pos} (D : Df X.prog X.w X.K X.mg X.base k x st ps sp) (hr : Room k X.A) (hg : Gl X x) (hdb : (x == ("__debug__" : Str)) = false := by decide) :
    PE X (.Call (.Name x p) [] [] pos) (tCall sp [] E0 tNil) := by
  obtain ⟨f, fd, F, g, G, b⟩ := D.ex
  exact pe_call0 G hr hg g F.kp b .nil pass0 hdb
/-- a method without arguments -/
structure Mt (P : Program) (w : World) (K : PySem.W.Frag) (mg : Str → Option Value) (base : Heap) (C : Addr) (m : Str) (sp : Sp) : Prop where
  ex : ∃ (f : Addr) (fd : FuncData), Meth K C m f ∧ FnOk P w K mg base CX0 1 f fd ["self"] sp ∧ Binds K fd ["self"] []
/-- what is known of the class Panel where it is used -/
structure PanP (P : Program) (w : World) (K : PySem.W.Frag) (mg : Str → Option Value) (base : Heap) (C : Addr) : Prop where
  cls : Cls K C
  en : Mt P w K mg base C "entries" (spEnt C)
  rw : Mt P w K mg base C "rows" (spRws C)
  ln : ∃ (f : Addr) (fd : FuncData), PySem.W.findIn K (.ref C) "__len__" = some (some (.ref f)) ∧ PySem.W.isFn K (.ref f) = true ∧ FnOk P w K mg base CX0 1 f fd ["self"] (spLen C) ∧ Binds K fd ["self"] []
theorem pe_mt {X : Cx} {C : Addr} {m : Str} {sp : Sp} {o : Expr} {ta : TE} {apos pos : Pos} {pl : Sem Bool} (he : PE X o ta) (c : Cls X.K C) (M : Mt X.prog X.w X.K X.mg X.base C m sp) (hr : Room 1 X.A)
    (ht : eval (.Call (.Attribute o m apos) [] [] pos) X.env = (do
      let ov ← eval o X.env
      standAt apos.atName
      let (f, first) ← holding [ov] (getMethod ov m pl)
      callWith pos f first (backTo pos (starEach [] X.env)) (backToKw pos (keywordEach [] X.env))) := by rfl) : PE X (.Call (.Attribute o m apos) [] [] pos) (tMeth C m sp [] E0 ta tNil) := by
  obtain ⟨f, fd, M1, G, b⟩ := M.ex
  exact pe_meth0 he c M1 G hr b .nil pass0 ht
theorem call_lenP {X : Cx} {C : Addr} (N : PanP X.prog X.w X.K X.mg X.base C) (hr : Room 2 X.A) : CallR X (.builtin "len") (rLenO C (spLen C)) := by
  obtain ⟨f, fd, h1, h2, G, b⟩ := N.ln
  exact call_lenO G hr h1 h2 b
theorem RowsAt.adr {H : Hp} {as : List Addr} {rs : List (List Str)} (h : RowsAt H as rs) : ∀ {i : Nat} {r : List Str}, rs[i]? = some r → ∃ c, as[i]? = some c ∧ H c = some (.lst (r.map V.str)) := by
  induction h with
  | nil => intro i r e; simp at e
  | @cons a r0 as rs h0 _ ih =>
    intro i r e
    match i, e with
    | 0, e =>
      have e2 : r0 = r := by simpa using e
      exact ⟨a, rfl, e2 ▸ h0⟩
    | i + 1, e => exact ih (by simpa using e)
section
variable {P : Program} {w : World} {K : PySem.W.Frag} {mg : Str → Option Value} {base : Heap} {C : Addr}
abbrev sNamed : Stmt := top 33
theorem scNamed : FnScope ["panel", "at", "field"] ["panel", "at", "field"] (defScope sNamed) := ⟨rfl, rfl, rfl, by decide +kernel, rfl, by decide +kernel, by decide +kernel⟩
theorem ok_named {f : Addr} {fd : FuncData} (F : FnP K "named" sNamed f fd) (L : Lib K mg) (N : PanP P w K mg base C) (DP : Df P w K mg base 1 "check_panel" sChkP ["panel"] (spChkP C)) (DA : Df P w K mg base 2 "check_position" sChkAt ["many", "at"] spChkAt)
    (DF : Df P w K mg base 4 "check_field" sChkF ["entries", "field"] (spChkF K)) (D1 : Df P w K mg base 1 "first_there" sFirst ["row", "field"] (spFirst K)) : FnOk P w K mg base CX0 5 f fd ["panel", "at", "field"] (spNamed C) := by
  refine okN F scNamed (fun vs H Q E h => ?_) (fun cdv A outer s H vs Q E hr h => ?_)
  · obtain ⟨_, _, _, _, _, _, _, _, rfl, _⟩ := h
    rfl
  · obtain ⟨a, fa, i, xs, fs, rs, r, z, rfl, ⟨pan, fre, le⟩, hf, hr1, hz, k⟩ := h
    obtain ⟨dx, gs, fr1, fr2, fr3, fr4⟩ := fre
    have li := (List.getElem?_eq_some_iff.mp hr1).1
    refine ⟨_, pss_cons (ps_expr (pe_df DP (hr.mono (by decide)) (by rfl) (pa_cons (pv 0) pa_nil)))
      (pss_cons (ps_expr (pe_df DA (hr.mono (by decide)) (by rfl) (pa_cons (pe_callB (call_lenP N (hr.mono (by decide))) (by rfl) L.len PySem.boot_len (pa_cons (pv 0) pa_nil)) (pa_cons (pv 1) pa_nil))))
      (pss_cons (ps_expr (pe_df DF hr (by rfl) (pa_cons (pe_mt (pv 0) N.cls N.en (hr.mono (by decide))) (pa_cons (pv 2) pa_nil))))
      (pss_one (ps_ret (pe_df D1 (hr.mono (by decide)) (by rfl) (pa_cons (pe_ix ix_list (pe_mt (pv 0) N.cls N.rw (hr.mono (by decide))) (pv 1) (fun _ _ => rfl)) (pa_cons (pv 2) pa_nil))))))), ?_⟩
    refine ⟨_, rfl, a, dx, gs, rfl, fr1, ?_⟩
    refine ⟨_, rfl, a, dx, gs, (rs.length : Int), rfl, fr1, by omega, by omega, a, xs, rs, rfl, pan, rfl, _, rfl, (rs.length : Int), (i : Int), rfl, by omega, by omega, ?_⟩
    refine ⟨_, rfl, a, dx, gs, rfl, fr1, fr2, a, xs, rs, rfl, pan, fun D H1 s1 nD hD => ⟨_, rfl, D, fa, xs, fs, rfl, SqL.of hD, s1 _ _ hf.at_, hf.le, hf.lot, hf.pos, fun H2 s2 => ?_⟩⟩
    have s12 := s1.trans s2
    refine ⟨_, rfl, a, dx, gs, rfl, s12 _ _ fr1, fr3, a, xs, rs, rfl, pan.same s12, le, fun D2 as H3 s3 nD2 hD2 has _ _ => ?_⟩
    obtain ⟨c, hc, hc2⟩ := has.adr hr1
    have s13 := s12.trans s3
    refine ⟨_, rfl, D2, as.map V.ref, (i : Int), .ref c, rfl, rfl, SqL.of hD2, atI_nat (by rw [List.getElem?_map, hc]; rfl), _, rfl, c, fa, r, fs, z, rfl, SqL.of hc2, SqL.of (s13 _ _ hf.at_), hz, k _ s13⟩
abbrev sCards : Stmt := top 34
theorem scCards : FnScope ["panel", "field"] ["panel", "field"] (defScope sCards) := ⟨rfl, rfl, rfl, by decide +kernel, rfl, by decide +kernel, by decide +kernel⟩
theorem ok_cards {f : Addr} {fd : FuncData} (F : FnP K "cards" sCards f fd) (N : PanP P w K mg base C) (DP : Df P w K mg base 1 "check_panel" sChkP ["panel"] (spChkP C))
    (DF : Df P w K mg base 4 "check_field" sChkF ["entries", "field"] (spChkF K)) (D1 : Df P w K mg base 2 "cards_on" sCardsOn ["rows", "field"] (spCardsOn K)) : FnOk P w K mg base CX0 5 f fd ["panel", "field"] (spCards C) := by
  refine okN F scCards (fun vs H Q E h => ?_) (fun cdv A outer s H vs Q E hr h => ?_)
  · obtain ⟨_, _, _, _, _, rfl, _⟩ := h
    rfl
  · obtain ⟨a, fa, xs, fs, rs, rfl, ⟨pan, fre, le⟩, hf, hp, k⟩ := h
    obtain ⟨dx, gs, fr1, fr2, fr3, fr4⟩ := fre
    refine ⟨_, pss_cons (ps_expr (pe_df DP (hr.mono (by decide)) (by rfl) (pa_cons (pv 0) pa_nil)))
      (pss_cons (ps_expr (pe_df DF hr (by rfl) (pa_cons (pe_mt (pv 0) N.cls N.en (hr.mono (by decide))) (pa_cons (pv 1) pa_nil))))
      (pss_one (ps_ret (pe_df D1 (hr.mono (by decide)) (by rfl) (pa_cons (pe_mt (pv 0) N.cls N.rw (hr.mono (by decide))) (pa_cons (pv 1) pa_nil)))))), ?_⟩
    refine ⟨_, rfl, a, dx, gs, rfl, fr1, ?_⟩
    refine ⟨_, rfl, a, dx, gs, rfl, fr1, fr2, a, xs, rs, rfl, pan, fun D H1 s1 nD hD => ⟨_, rfl, D, fa, xs, fs, rfl, SqL.of hD, s1 _ _ hf.at_, hf.le, hf.lot, hf.pos, fun H2 s2 => ?_⟩⟩
    have s12 := s1.trans s2
    refine ⟨_, rfl, a, dx, gs, rfl, s12 _ _ fr1, fr3, a, xs, rs, rfl, pan.same s12, le, fun D2 as H3 s3 nD2 hD2 has _ _ => ?_⟩
    have s13 := s12.trans s3
    refine ⟨_, rfl, D2, fa, as, rs, fs, rfl, hD2, has, SqL.of (s13 _ _ hf.at_), fun r hr => hf.fst (hp r hr), le, fun ys D3 H4 s4 nD3 hD3 so nd hm ly => ?_⟩
    exact k ys D3 H4 (s13.trans s4) (s13.free nD3) hD3 so nd hm ly
abbrev sWho : Stmt := top 35
abbrev nWho : List Str := ["panel", "field", "entry", "at", "row"]
theorem scWho : FnScope nWho ["panel", "field", "entry"] (defScope sWho) := ⟨rfl, rfl, rfl, by decide +kernel, rfl, by decide +kernel, by decide +kernel⟩
theorem ok_who {f : Addr} {fd : FuncData} (F : FnP K "who" sWho f fd) (LZ : LibZ mg) (N : PanP P w K mg base C) (DP : Df P w K mg base 1 "check_panel" sChkP ["panel"] (spChkP C)) (DN : Df P w K mg base 1 "check_entry" sChkN ["entries", "entry"] (spChkN K))
    (DF : Df P w K mg base 4 "check_field" sChkF ["entries", "field"] (spChkF K)) (D1 : Df P w K mg base 1 "first_there" sFirst ["row", "field"] (spFirst K)) : FnOk P w K mg base CX0 5 f fd ["panel", "field", "entry"] (spWho C) := by
  refine okN F scWho (fun vs H Q E h => ?_) (fun cdv A outer s H vs Q E hr h => ?_)
  · obtain ⟨_, _, _, _, _, _, rfl, _⟩ := h
    rfl
  · obtain ⟨a, fa, xs, fs, rs, z, rfl, ⟨pan, fre, le⟩, hf, hp, hz, k⟩ := h
    obtain ⟨dx, gs, fr1, fr2, fr3, fr4⟩ := fre
    have r1 : Room 1 (A.deeper (envOfC "who" (defScope sWho) s.heap.objs.size f cdv)) := hr.mono (by decide)
    refine ⟨_, pss_cons (ps_expr (pe_df DP r1 (by rfl) (pa_cons (pv 0) pa_nil)))
      (pss_cons (ps_expr (pe_df DF hr (by rfl) (pa_cons (pe_mt (pv 0) N.cls N.en r1) (pa_cons (pv 1) pa_nil))))
      (pss_cons (ps_expr (pe_df DN r1 (by rfl) (pa_cons (pe_mt (pv 0) N.cls N.en r1) (pa_cons (pv 2) pa_nil))))
      (pss_one (ps_ret (pe_lc (own := [("at", 3), ("row", 4)]) (g := gTup K 2 (gCons (gName 3) (gCons (gName 4) gNil))) (tt := tTest (tOp rEq (tCall (spFirst K) [] E0 (tCons (tVar 4) (tCons (tVar 1) tNil))) (tVar 2))) (te := tVar 3) rfl scWho.nd
        (pi_enum (by rfl) LZ.enum (pa_cons (pe_mt (pv 0) N.cls N.rw r1) pa_nil)) (blkOk_by (N := nWho) (sc := defScope sWho) (by decide +kernel))
        (fun _ _ _ _ _ => pg_tup (n := 2) (by rfl) (pgs_cons (pg_name (i := 3) scWho.nd rfl (Or.inl rfl)) (pgs_cons (pg_name (i := 4) scWho.nd rfl (Or.inl rfl)) pgs_nil)))
        (fun _ _ _ _ _ => pts_one (pt_cmpR op_eq (pe_df D1 r1 (by rfl) (pa_cons (pv 4) (pa_cons (pv 1) pa_nil))) (pv 2) (by rfl))) (fun _ _ _ _ _ => pv 3)))))), ?_⟩
    refine ⟨_, rfl, a, dx, gs, rfl, fr1, ?_⟩
    refine ⟨_, rfl, a, dx, gs, rfl, fr1, fr2, a, xs, rs, rfl, pan, fun D H1 s1 nD hD => ⟨_, rfl, D, fa, xs, fs, rfl, SqL.of hD, s1 _ _ hf.at_, hf.le, hf.lot, hf.pos, fun H2 s2 => ?_⟩⟩
    have s12 := s1.trans s2
    refine ⟨_, rfl, a, dx, gs, rfl, s12 _ _ fr1, fr2, a, xs, rs, rfl, pan.same s12, fun D2 H3 s3 nD2 hD2 => ⟨_, rfl, D2, xs, z, rfl, SqL.of hD2, hz, ?_⟩⟩
    have s13 := s12.trans s3
    refine ⟨_, rfl, a, dx, gs, rfl, s13 _ _ fr1, fr3, a, xs, rs, rfl, pan.same s13, le, fun D3 as H4 s4 nD3 hD3 has _ _ => ?_⟩
    have s14 := s13.trans s4
    refine ⟨D3, as.map V.ref, rfl, SqL.of hD3, fun D4 hD4 => lc_enum (K := K) (a := D3) (xs := as.map V.ref) (fun i H' => H' D4 = some (.lst (natsV ((List.range i).filter fun j => decide (fstD fs (rs.getD j []) = z)))) ∧ Same H4 H') ⟨upd_same, sn hD4⟩ (fun i H' h => SqL.of (h.2 _ _ hD3)) ?_ ?_⟩
    · rintro i x T H' hx ⟨q1, q2⟩ nT
      rw [List.getElem?_map] at hx
      obtain ⟨c, hc, rfl⟩ := Option.map_eq_some_iff.mp hx
      obtain ⟨r, hr1, hr2⟩ := has.at hc
      obtain ⟨y, hy⟩ := hf.fst (hp r (List.mem_of_getElem? hr1))
      have st : Same H' (upd H' T (.tup [.int (i : Nat), .ref c])) := sn nT
      have eD : rs.getD i [] = r := by rw [List.getD_eq_getElem?_getD, hr1]; rfl
      have li : i < rs.length := (List.getElem?_eq_some_iff.mp hr1).1
      refine ⟨T, _, rfl, SqT.of upd_same, rfl, _, _, rfl, _, _, rfl, rfl, rfl, _, rfl, _, rfl, c, fa, r, fs, y, rfl, SqL.of (st _ _ (q2 _ _ hr2)), SqL.of (st _ _ ((s14.trans q2) _ _ hf.at_)), hy, _, rfl, rfl, decide (y = z), ?_, ?_⟩
      · by_cases e : y = z
        · rw [e, decide_eq_true rfl, decide_eq_true rfl]
        · rw [decide_eq_false e, decide_eq_false (fun q => e (by injection q))]
      · have rg : (List.range (i + 1)).filter (fun j => decide (fstD fs (rs.getD j []) = z)) = (List.range i).filter (fun j => decide (fstD fs (rs.getD j []) = z)) ++ (if y = z then [i] else []) := by
          rw [List.range_succ, List.filter_append]
          congr 1
          rw [List.filter_cons, eD, fstD_of hy]
          by_cases e : y = z
          · rw [if_pos e, decide_eq_true e, if_pos rfl]
            rfl
          · rw [if_neg e, decide_eq_false e, if_neg Bool.false_ne_true]
            rfl
        have lg : ((List.range i).filter fun j => decide (fstD fs (rs.getD j []) = z)).length ≤ 60 := Nat.le_trans (List.length_filter_le _ _) (by rw [List.length_range]; omega)
        by_cases e : y = z
        · rw [decide_eq_true e]
          refine iteT ⟨_, rfl, _, st _ _ q1, small1000 (by unfold natsV; rw [List.length_map]; omega), ?_, fun b o eb => ?_⟩
          · rw [upd_same, rg, if_pos e]
            unfold natsV
            rw [List.map_append]
            rfl
          · rw [upd_ne (ne_of_none eb hD4)]
            exact st _ _ (q2 _ _ eb)
        · rw [decide_eq_false e]
          refine iteF ⟨?_, q2.trans st⟩
          rw [rg, if_neg e, List.append_nil]
          exact st _ _ q1
    · rintro H' ⟨q1, q2⟩
      rw [List.length_map, has.len] at q1
      exact k D4 H' (s14.trans q2) (s14.free hD4) q1
end
end K08

set_option maxHeartbeats 8000000
namespace K08
open PySem PySem.Spec PyProof.Rows L2 G1
section
variable {P : Program} {w : World} {K : PySem.W.Frag} {mg : Str → Option Value} {base : Heap} {C : Addr}
abbrev sAhead : Stmt := top 36
abbrev nAhead : List Str := ["panel", "at", "entry", "row"]
theorem scAhead : FnScope nAhead ["panel", "at", "entry"] (defScope sAhead) := ⟨rfl, rfl, rfl, by decide +kernel, rfl, by decide +kernel, by decide +kernel⟩
theorem ok_ahead {f : Addr} {fd : FuncData} (F : FnP K "ahead" sAhead f fd) (L : Lib K mg) (LP : LibP mg) (N : PanP P w K mg base C) (DP : Df P w K mg base 1 "check_panel" sChkP ["panel"] (spChkP C)) (DA : Df P w K mg base 2 "check_position" sChkAt ["many", "at"] spChkAt)
    (DN : Df P w K mg base 1 "check_entry" sChkN ["entries", "entry"] (spChkN K)) : FnOk P w K mg base CX0 3 f fd ["panel", "at", "entry"] (spAhead C) := by
  refine okN F scAhead (fun vs H Q E h => ?_) (fun cdv A outer s H vs Q E hr h => ?_)
  · obtain ⟨_, _, _, _, _, _, rfl, _⟩ := h
    rfl
  · obtain ⟨a, i, xs, rs, r, z, rfl, ⟨pan, fre, le⟩, hr1, lr, hz, hzr, k⟩ := h
    obtain ⟨dx, gs, fr1, fr2, fr3, fr4⟩ := fre
    have li := (List.getElem?_eq_some_iff.mp hr1).1
    have r1 : Room 1 (A.deeper (envOfC "ahead" (defScope sAhead) s.heap.objs.size f cdv)) := hr.mono (by decide)
    refine ⟨_, pss_cons (ps_expr (pe_df DP r1 (by rfl) (pa_cons (pv 0) pa_nil)))
      (pss_cons (ps_expr (pe_df DA hr (by rfl) (pa_cons (pe_callB (call_lenP N hr) (by rfl) L.len PySem.boot_len (pa_cons (pv 0) pa_nil)) (pa_cons (pv 1) pa_nil))))
      (pss_cons (ps_expr (pe_df DN r1 (by rfl) (pa_cons (pe_mt (pv 0) N.cls N.en r1) (pa_cons (pv 2) pa_nil))))
      (pss_cons (ps_set (i := 3) scAhead.nd rfl (Or.inl rfl) (pe_ix ix_list (pe_mt (pv 0) N.cls N.rw r1) (pv 1) (fun _ _ => rfl)))
      (pss_one (ps_ret (pe_callB cr_sortedS (by rfl) LP.sorted (by decide +kernel) (pa_cons (pe_slice sl_list (pv 3) po_none (po_some (pe_bm PySem.F.plainAttrs_list PySem.F.slot_list_index PySem.F.type_list_index mt_index (pv 3) (pa_cons (pv 2) pa_nil)))) pa_nil))))))), ?_⟩
    refine ⟨_, rfl, a, dx, gs, rfl, fr1, ?_⟩
    refine ⟨_, rfl, a, dx, gs, (rs.length : Int), rfl, fr1, by omega, by omega, a, xs, rs, rfl, pan, rfl, _, rfl, (rs.length : Int), (i : Int), rfl, by omega, by omega, ?_⟩
    refine ⟨_, rfl, a, dx, gs, rfl, fr1, fr2, a, xs, rs, rfl, pan, fun D2 H3 s3 nD2 hD2 => ⟨_, rfl, D2, xs, z, rfl, SqL.of hD2, hz, ?_⟩⟩
    refine ⟨_, rfl, a, dx, gs, rfl, s3 _ _ fr1, fr3, a, xs, rs, rfl, pan.same s3, le, fun D3 as H4 s4 nD3 hD3 has _ _ => ?_⟩
    obtain ⟨c, hc, hc2⟩ := has.adr hr1
    have s14 := s3.trans s4
    refine ⟨_, rfl, D3, as.map V.ref, (i : Int), .ref c, rfl, rfl, SqL.of hD3, atI_nat (by rw [List.getElem?_map, hc]; rfl), ?_⟩
    obtain ⟨x1, x2, x3⟩ := idx_ok hzr
    refine ⟨_, rfl, _, rfl, .inl ⟨rfl, _, SqL.of hc2⟩, _, rfl, c, r.map V.str, .str z, r.idxOf z, .str z, rfl, rfl, SqL.of hc2, rfl, flat_strs, x1, x2, x3, _, rfl, c, _, rfl, SqL.of hc2, fun c2 nc2 => ?_⟩
    rw [cut_any (m := r.idxOf z), ← List.map_take]
    have s5 : Same H4 (upd H4 c2 (.lst ((r.take (r.idxOf z)).map V.str))) := sn nc2
    have f5 : upd H4 c2 (.lst ((r.take (r.idxOf z)).map V.str)) c2 = some (.lst ((r.take (r.idxOf z)).map V.str)) := upd_same
    generalize upd H4 c2 (.lst ((r.take (r.idxOf z)).map V.str)) = H5 at s5 f5 ⊢
    refine ⟨c2, r.take (r.idxOf z), rfl, SqL.of f5, by rw [List.length_take]; omega, fun ys p py so np => ?_⟩
    exact k ys p _ ((s14.trans s5).trans (sn np)) ((s14.trans s5).free np) upd_same so py
abbrev sPlaces : Stmt := top 37
abbrev nPlaces : List Str := ["panel", "entry", "row"]
theorem scPlaces : FnScope nPlaces ["panel", "entry"] (defScope sPlaces) := ⟨rfl, rfl, rfl, by decide +kernel, rfl, by decide +kernel, by decide +kernel⟩
theorem ok_places {f : Addr} {fd : FuncData} (F : FnP K "places" sPlaces f fd) (N : PanP P w K mg base C) (DP : Df P w K mg base 1 "check_panel" sChkP ["panel"] (spChkP C)) (DN : Df P w K mg base 1 "check_entry" sChkN ["entries", "entry"] (spChkN K)) :
    FnOk P w K mg base CX0 2 f fd ["panel", "entry"] (spPlaces C) := by
  refine okN F scPlaces (fun vs H Q E h => ?_) (fun cdv A outer s H vs Q E hr h => ?_)
  · obtain ⟨_, _, _, _, rfl, _⟩ := h
    rfl
  · obtain ⟨a, xs, rs, z, rfl, ⟨pan, fre, le⟩, hzr, hz, k⟩ := h
    obtain ⟨dx, gs, fr1, fr2, fr3, fr4⟩ := fre
    refine ⟨_, pss_cons (ps_expr (pe_df DP hr (by rfl) (pa_cons (pv 0) pa_nil)))
      (pss_cons (ps_expr (pe_df DN hr (by rfl) (pa_cons (pe_mt (pv 0) N.cls N.en hr) (pa_cons (pv 1) pa_nil))))
      (pss_one (ps_ret (pe_lc (own := [("row", 2)]) (g := gName 2) (tt := tYes) (te := tBM K "list" (rIndex K) (tVar 2) (tCons (tVar 1) tNil)) rfl scPlaces.nd (pi_list (pe_mt (pv 0) N.cls N.rw hr))
        (blkOk_by (N := nPlaces) (sc := defScope sPlaces) (by decide +kernel)) (fun _ _ _ _ _ => pg_name (i := 2) scPlaces.nd rfl (Or.inl rfl)) (fun _ _ _ _ _ => pts_nil)
        (fun _ _ _ _ _ => pe_bm PySem.F.plainAttrs_list PySem.F.slot_list_index PySem.F.type_list_index mt_index (pv 2) (pa_cons (pv 1) pa_nil)))))), ?_⟩
    refine ⟨_, rfl, a, dx, gs, rfl, fr1, ?_⟩
    refine ⟨_, rfl, a, dx, gs, rfl, fr1, fr2, a, xs, rs, rfl, pan, fun D2 H3 s3 nD2 hD2 => ⟨_, rfl, D2, xs, z, rfl, SqL.of hD2, hz, ?_⟩⟩
    refine ⟨_, rfl, a, dx, gs, rfl, s3 _ _ fr1, fr3, a, xs, rs, rfl, pan.same s3, le, fun D3 as H4 s4 nD3 hD3 has _ _ => ?_⟩
    have s14 := s3.trans s4
    refine ⟨D3, rfl, ⟨_, SqL.of hD3⟩, fun D4 hD4 => lc_list (K := K) (a := D3) (xs := as.map V.ref) (fun i H' => H' D4 = some (.lst (natsV ((rs.take i).map fun r => r.idxOf z))) ∧ Same H4 H') ⟨upd_same, sn hD4⟩ (fun i H' _ h => SqL.of (h.2 _ _ hD3)) ?_ ?_⟩
    · rintro i y H' hi ⟨q1, q2⟩
      rw [List.getElem?_map] at hi
      obtain ⟨c, hc, rfl⟩ := Option.map_eq_some_iff.mp hi
      obtain ⟨r, hr1, hr2⟩ := has.at hc
      obtain ⟨x1, x2, x3⟩ := idx_ok (hzr r (List.mem_of_getElem? hr1))
      refine ⟨rfl, _, rfl, .inl ⟨rfl, _, SqL.of (q2 _ _ hr2)⟩, _, rfl, c, r.map V.str, .str z, r.idxOf z, .str z, rfl, rfl, SqL.of (q2 _ _ hr2), rfl, flat_strs, x1, x2, x3, _, q1, ?_, ?_, fun b o e => ?_⟩
      · refine small1000 ?_
        unfold natsV
        rw [List.length_map, List.length_map]
        have := List.length_take_le' i rs
        omega
      · rw [upd_same, List.take_succ, hr1, List.map_append]
        unfold natsV
        rw [List.map_append]
        rfl
      · rw [upd_ne (ne_of_none e hD4)]
        exact q2 _ _ e
    · rintro H' ⟨q1, q2⟩
      rw [List.length_map, has.len, List.take_length] at q1
      exact k D4 H' (s14.trans q2) (s14.free hD4) q1
end
end K08

set_option maxHeartbeats 8000000
namespace K08
open PySem PySem.Spec PyProof.Rows L2 G1
theorem pw_rising : ∀ (p : Str) (l : List Str), (p :: l).Pairwise leS → risingS p l = true
  | p, [], _ => rfl
  | p, x :: r, h => by
    obtain ⟨h1, h2⟩ := List.pairwise_cons.mp h
    have l1 : leS p x := h1 x List.mem_cons_self
    show (!ltCps x.cps.toList p.cps.toList && risingS x r) = true
    rw [pw_rising x r h2, ltCps_eq, decide_eq_false l1]
    rfl
theorem pw_sorted {l : List Str} (h : l.Pairwise leS) : sortedS l = true := match l, h with
  | [], _ => rfl
  | x :: r, h => pw_rising x r h
theorem sorted_filter {l : List Str} {p : Str → Bool} (h : sortedS l = true) : sortedS (l.filter p) = true := pw_sorted ((sorted_pw h).sublist List.filter_sublist)
/-- without the entries of a lot -/
def less (zs r : List Str) : List Str := r.filter fun z => decide (z ∉ zs)
/-- [name for name in l if name not in lot], the step -/
theorem less_take {zs r : List Str} {i : Nat} {z : Str} (h : r[i]? = some z) : less zs (r.take (i + 1)) = less zs (r.take i) ++ (if z ∈ zs then [] else [z]) := by
  unfold less
  rw [List.take_succ, h, List.filter_append]
  congr 1
  show List.filter _ [z] = _
  rw [List.filter_cons]
  by_cases e : z ∈ zs
  · rw [if_pos e, decide_eq_false (fun q => q e), if_neg Bool.false_ne_true]
    rfl
  · rw [if_neg e, decide_eq_true e, if_pos rfl]
    rfl
end K08

set_option maxHeartbeats 4000000
/-! list(d.values()), and dict(pairs) whose keys differ. -/
namespace G1
open PySem PySem.Spec PyProof.Rows L2
def tListVals (te : TE) : TE := fun σ H Q => te σ H fun x H1 => ∃ (d : Addr) (kvs : List (Key × V)), x = .ref d ∧ H1 d = some (.dK kvs) ∧ ∀ p, H1 p = none → Q (.ref p) (upd H1 p (.lst (kvs.map (·.2))))
theorem vals_snd : ∀ {kvs : List (Key × V)} {vs : List (Key × Value)}, KV kvs vs → Vals (kvs.map (·.2)) (vs.map (·.2))
  | _, _, .nil => .nil
  | _, _, .cons h t => .cons h.2 (vals_snd t)
section
variable {X : Cx} {e : Expr} {te : TE} {p apos cpos pos : Pos}
theorem pe_listVals (hc : X.calm = true) (he : PE X e te) (hg : Gl X "list") (hm : X.mg "list" = none) (hv : bootBuiltins "list" = some (.type "list")) (hbase : attributeBase e "values" X.env (eval e X.env) = eval e X.env := by rfl) (hline : (apos.endLine == cpos.line) = true := by rfl)
    (hs : starEach [.Call (.Attribute e "values" apos) [] [] cpos] X.env = (false, eval (.Call (.Attribute e "values" apos) [] [] cpos) X.env) :: starEach [] X.env := by rfl) :
    PE X (.Call (.Name "list" p) [.Call (.Attribute e "values" apos) [] [] cpos] [] pos) (tListVals te) := by
  refine ⟨fun pins s σ H Q I hq => ?_⟩
  refine wpAny_Call_Name_kw (ld_blt I hg hm hv ?_)
  refine PyProof.Rows.callWith_type1 ?_ hs rfl
  rw [hs]
  show wpAny _ _ (spliced ((false, eval (.Call (.Attribute e "values" apos) [] [] cpos) X.env) :: backTo pos (starEach [] X.env))) _ _ s
  refine Calls.spliced_cons ?_
  refine wpAny_Call_method (T := "dict") (id := "dict.values") hbase rfl hline F.plainAttrs_dict F.slot_dict_values F.type_dict_values (thn (he.run pins s σ H _ I hq) fun u s1 ⟨x, H1, I1, rx, d, kvs, ex, hd, q⟩ => ?_)
  subst ex
  obtain rfl : u = Value.ref d := rx
  obtain ⟨hz, hs0, vs, kv, hdo⟩ := I1.hok d _ hd
  obtain ⟨ep, hat⟩ := hdo.dictAt
  have lk : kvs.length = vs.length := Paired.length kv
  have I2 : Inv X pins σ H1 { s1 with heap := s1.heap.push { cls := .type "dict_values", data := .fields #[.ref d] } } := I1.kept (t' := s1.toks) fun b ob q => Heap.get?_push_of_some _ q
  refine ⟨hdo.typeIs, hdo.mapOf.noDict, ?_⟩
  show wpAny _ _ (callWith cpos (.builtin "dict.values") [.ref d] [] []) _ X.xe s1
  refine method_meetsIn F.slot_dict_values F.entry_dict_values rfl (PySem.evalArgs_none ⟨rfl, hdo.typeIs, F.args_dict_values_1 _, _, meets_dict_values (mixKind X.prog X.w) d hs0, ⟨vs, hdo⟩, ?_⟩)
  refine Calls.spliced_nil ?_
  refine PySem.W.kdl_call (PySem.W.kdl_values (knd := mixKind X.prog X.w) (kvs := vs) (ep := ep)) (I1.ok.hd hc) ⟨⟨_, Heap.get?_push_size _ rfl, rfl, rfl⟩, hat.push _⟩ (by omega) fun h' tk acc c hk hS hacc => ?_
  have ea : acc.toList = vs.map (·.2) := PySem.W.kdl_vals_eq acc.toList (by rw [Array.length_toList]; exact hacc.1) fun j v e => hacc.2 j v (by rw [← Array.getElem?_toList]; exact e)
  refine ⟨.ref _, upd H1 _ (.lst (kvs.map (·.2))), I2.laid (t' := tk) hk (Nat.le_refl _) (show ObjOk X.prog X.w _ _ _ (.lst (kvs.map (·.2))) from ⟨by rw [List.length_map]; omega, vs.map (·.2), c, vals_snd kv, ?_⟩), rfl, q _ (I2.hok.fresh (Nat.le_refl _))⟩
  rw [← ea, Array.toArray_toList]
  exact hS
end
theorem mergeK_new : ∀ {more acc : List (Key × V)}, ((acc ++ more).map (·.1)).Nodup → mergeK acc more = acc ++ more
  | [], acc, _ => by rw [List.append_nil]; rfl
  | p :: more, acc, h => by
    have e1 : valV acc p.1 = none := by
      cases e : valV acc p.1 with
      | none => rfl
      | some v =>
        have m := valV_in e
        rw [List.map_append, List.map_cons] at h
        exact absurd rfl ((List.nodup_append.mp h).2.2 p.1 m p.1 List.mem_cons_self)
    show mergeK (putK acc p.1 p.2) more = acc ++ p :: more
    rw [putK_new _ e1]
    have e2 : acc ++ [(p.1, p.2)] ++ more = acc ++ p :: more := by rw [List.append_assoc]; rfl
    rw [← e2]
    exact mergeK_new (by rw [e2]; exact h)
/-! ### a dict that leads texts to texts -/
def kvP (ks vs : List Str) : List (Key × V) := (ks.zip vs).map fun p => ((.inr p.1 : Key), V.str p.2)
def ren : List Str → List Str → Str → Str
  | k :: ks, v :: vs, z => if k = z then v else ren ks vs z
  | _, _, z => z
theorem kvP_len {ks vs : List Str} (h : ks.length = vs.length) : (kvP ks vs).length = ks.length := by
  unfold kvP
  rw [List.length_map, List.length_zip]
  omega
theorem kvP_keys : ∀ {ks vs : List Str}, ks.length = vs.length → (kvP ks vs).map (·.1) = ks.map fun k => (.inr k : Key)
  | [], _, _ => rfl
  | _ :: _, [], h => by simp at h
  | k :: ks, v :: vs, h => by
    show (.inr k : Key) :: (kvP ks vs).map (·.1) = _
    rw [kvP_keys (by simpa using h)]
    rfl
theorem kvP_vals : ∀ {ks vs : List Str}, ks.length = vs.length → (kvP ks vs).map (·.2) = vs.map V.str
  | [], [], _ => rfl
  | [], _ :: _, h => by simp at h
  | _ :: _, [], h => by simp at h
  | k :: ks, v :: vs, h => by
    show V.str v :: (kvP ks vs).map (·.2) = _
    rw [kvP_vals (by simpa using h)]
    rfl
theorem nd_inr {ks : List Str} (n : ks.Nodup) : (ks.map fun k => (.inr k : Key)).Nodup := by
  refine List.pairwise_map.mpr (n.imp fun {a b} ne e => ne ?_)
  injection e
theorem kvP_merge {ks vs : List Str} (n : ks.Nodup) (h : ks.length = vs.length) : mergeK [] (kvP ks vs) = kvP ks vs := by
  have q := mergeK_new (more := kvP ks vs) (acc := []) (by rw [List.nil_append, kvP_keys h]; exact nd_inr n)
  rw [q, List.nil_append]
theorem valV_ren : ∀ {ks vs : List Str} {z : Str}, ks.length = vs.length → z ∈ ks → valV (kvP ks vs) (.inr z) = some (V.str (ren ks vs z))
  | [], _, z, _, m => nomatch m
  | _ :: _, [], _, h, _ => by simp at h
  | k :: ks, v :: vs, z, h, m => by
    show valV (((.inr k : Key), V.str v) :: kvP ks vs) (.inr z) = _
    by_cases e : k = z
    · rw [valV_pos (by rw [e])]
      unfold ren
      rw [if_pos e]
    · rw [valV_neg (fun q => e (by injection q))]
      have m2 : z ∈ ks := by
        rcases List.mem_cons.mp m with q | q
        · exact absurd q.symm e
        · exact q
      rw [valV_ren (by simpa using h) m2]
      show _ = some (V.str (if k = z then v else ren ks vs z))
      rw [if_neg e]
theorem ren_mem : ∀ {ks vs : List Str} {z : Str}, ks.length = vs.length → z ∈ ks → ren ks vs z ∈ vs
  | [], _, z, _, m => nomatch m
  | _ :: _, [], _, h, _ => by simp at h
  | k :: ks, v :: vs, z, h, m => by
    show (if k = z then v else ren ks vs z) ∈ v :: vs
    by_cases e : k = z
    · rw [if_pos e]
      exact List.mem_cons_self
    · rw [if_neg e]
      rcases List.mem_cons.mp m with q | q
      · exact absurd q.symm e
      · exact List.mem_cons_of_mem _ (ren_mem (by simpa using h) q)
theorem ren_map : ∀ {ks vs : List Str}, ks.length = vs.length → ks.Nodup → ks.map (ren ks vs) = vs
  | [], [], _, _ => rfl
  | [], _ :: _, h, _ => by simp at h
  | _ :: _, [], h, _ => by simp at h
  | k :: ks, v :: vs, h, n => by
    obtain ⟨n1, n2⟩ := List.nodup_cons.mp n
    show ren (k :: ks) (v :: vs) k :: ks.map (ren (k :: ks) (v :: vs)) = v :: vs
    congr 1
    · show (if k = k then v else ren ks vs k) = v
      rw [if_pos rfl]
    · rw [← ren_map (ks := ks) (vs := vs) (by simpa using h) n2]
      have e : ∀ ws, ws = vs → ks.map (ren (k :: ks) (v :: ws)) = ks.map (ren ks ws) := fun ws _ => List.map_congr_left fun z hz => by
        show (if k = z then v else ren ks ws z) = _
        rw [if_neg (fun q => n1 (by rw [q]; exact hz))]
      rw [ren_map (ks := ks) (vs := vs) (by simpa using h) n2]
      exact (e vs rfl).trans (ren_map (by simpa using h) n2)
theorem ren_ren : ∀ {ks vs : List Str} {z : Str}, ks.length = vs.length → vs.Nodup → z ∈ ks → ren vs ks (ren ks vs z) = z
  | [], _, z, _, _, m => nomatch m
  | _ :: _, [], _, h, _, _ => by simp at h
  | k :: ks, v :: vs, z, h, n, m => by
    obtain ⟨n1, n2⟩ := List.nodup_cons.mp n
    show (if v = (if k = z then v else ren ks vs z) then k else ren vs ks (if k = z then v else ren ks vs z)) = z
    by_cases e : k = z
    · rw [if_pos e, if_pos rfl, e]
    · have m2 : z ∈ ks := by
        rcases List.mem_cons.mp m with q | q
        · exact absurd q.symm e
        · exact q
      rw [if_neg e, if_neg (fun q => n1 (by rw [q]; exact ren_mem (by simpa using h) m2))]
      exact ren_ren (by simpa using h) n2 m2
theorem ren_inj {ks vs : List Str} (h : ks.length = vs.length) (n : vs.Nodup) {y z : Str} (hy : y ∈ ks) (hz : z ∈ ks) (e : ren ks vs y = ren ks vs z) : y = z := by
  rw [← ren_ren h n hy, e, ren_ren h n hz]
theorem ren_perm {ks vs r : List Str} (h : ks.length = vs.length) (n : ks.Nodup) (p : r.Perm ks) : (r.map (ren ks vs)).Perm vs := by
  have q := p.map (ren ks vs)
  rwa [ren_map h n] at q
end G1

set_option maxHeartbeats 4000000
/-! Several except clauses, each with the exception's name. -/
namespace G1
open PySem PySem.Spec PyProof.Rows L2
abbrev TsE : Type := Addr → Value → Option Addr → TS
/-- the clauses' wish, one behind the other -/
def wAll (K : PySem.W.Frag) (i : Nat) (Wout : WX) (D : Ends) : List (Value × TsE) → WX
  | [] => Wout
  | (c, ts) :: r => wAs K c i ts (wAll K i Wout D r) D
inductive HdsAs (X : Cx) (n : Str) : List ExceptHandler → List (Value × TsE) → Prop
  | nil : HdsAs X n [] []
  | cons {x : Str} {c : Value} {ts : TsE} {b0 : Stmt} {su : List Stmt} {q1 q2 : Pos} {hds : List ExceptHandler} {l : List (Value × TsE)} : Names X x c →
      (∀ (a : Addr) (oe : Obj) (cls : Value) (d : Option Addr) (pn : List (Addr × Obj)), Zc cls d oe → (∃ vs, oe.data = .fields vs) → PSs (X.suite a ((a, oe) :: pn)) (b0 :: su) (ts a cls d)) → HdsAs X n hds l →
      HdsAs X n (.ExceptHandler (some (.Name x q1)) (some n) (b0 :: su) q2 :: hds) ((c, ts) :: l)
section
variable {X : Cx} {body : List Stmt} {h0 : ExceptHandler} {hds : List ExceptHandler} {l : List (Value × TsE)} {pos : Pos} {tb : WX → TS} {Wout : WX} {n : Str} {i : Nat}
theorem ps_try_all (hs : X.stack = X.env :: X.outer) (hf : X.env.frame = some X.env.locals) (hN : X.N.Nodup) (hi : X.N[i]? = some n) (hln : X.env.kindOf n = some .local) (tk : Takes X Wout)
    (hb : ∀ (W : WX) (pn : List (Addr × Obj)) (xe : Value → Shared → Prop), Takes (X.tr pn xe) W → PassesOwn (model X.prog X.w) X.A X.env xe → PSs (X.tr pn xe) body (tb W)) (hh : HdsAs X n (h0 :: hds) l) :
    PS X (.Try body (h0 :: hds) [] [] pos) (fun D σ H => tb (wAll X.K i Wout D l) D σ H) := by
  refine ⟨fun pins s σ H D I h => wpAny_Try_except ?_⟩
  have ok := I.ok
  have frm : X.A.frames = some (X.env :: X.outer) := ok.frames.trans (by rw [hs])
  have loc : Loc X.env.scope n := .inl hln
  let xe0 : Value → Shared → Prop := fun e s1 => wpAny (model X.prog X.w) X.A (noteFrame e X.env) (fun _ s2 => wpAny (model X.prog X.w) X.A (setFlight e none) (fun _ s3 => wpAny (model X.prog X.w) X.A (handleBy e X.env (h0 :: hds)) (SP X pins D) X.xe s3) X.xe s2) X.xe s1
  have take0 : Takes (X.tr (X.pn ++ pins) xe0) (wAll X.K i Wout D l) := fun u s' xx => by
    obtain ⟨a, B, sI, pins', σ1, H1, cls, d, rfl, Jx, nb, up, sky, na, os, ag, w⟩ := xx
    have J : Inv X pins σ1 H1 sI := Jx.ofTry ok
    refine Sky.land Zc.steady frm hf (by rw [← hs]; exact sky : Sky B (X.env :: X.outer) a (Zc cls d) X.env.locals s'.heap) fun h3 fl up3 => ?_
    have J3 : Inv X pins σ1 H1 { s' with heap := h3 } := J.landed nb fl.1 (up.trans up3) os ag
    obtain ⟨o3, vs3, g3, z3, d3⟩ := fl.there
    have off : a ∉ frs (X.env :: X.outer) := fun hm => by
      obtain ⟨_, o', e', no⟩ := fl.2.2.1.mem hm
      rw [g3] at e'
      cases e'
      exact no _ d3
    have nL : a ≠ X.env.locals := fun q => off (List.mem_filterMap.mpr ⟨X.env, List.mem_cons_self, hf.trans (by rw [q])⟩)
    have nF : a ∉ X.fs := fun hm => by
      obtain ⟨ev, hev, q⟩ := List.mem_filterMap.mp hm
      exact off (List.mem_filterMap.mpr ⟨ev, List.mem_cons_of_mem _ hev, q⟩)
    have S3 := J3.suite g3 d3 na nL nF
    have LT : PySem.W.Looks (model X.prog X.w) h3 (typeOf (.ref a)) cls := fun A Q E t kp q => wpAny_typeOf_ref (kp _ _ g3) (z3.1 ▸ q)
    suffices go : ∀ {hds' : List ExceptHandler} {l' : List (Value × TsE)}, HdsAs X n hds' l' → wAll X.K i Wout D l' cls d σ1 H1 → wpAny (model X.prog X.w) X.A (handleBy (.ref a) X.env hds') (SP X pins D) X.xe { s' with heap := h3 } from go hh w
    intro hds' l' hk
    induction hk with
    | nil =>
      intro w
      obtain ⟨_, _, _, oe, vs, T, oT, _, he, hz, hd, h1, hr⟩ := id fl
      refine wpAny_handleBy_nil (by
        unfold PySem.passOn
        refine wpAny_bind (wpAny_field he hd h1 ?_)
        rw [if_neg (show ¬ ((Value.ref T == Value.none) = true) by simp)]
        have up0 : wpAny (model X.prog X.w) X.A (setFlight (.ref a) X.env.frame) (fun _ s4 => wpAny (model X.prog X.w) X.A (throw (.ref a) : Sem Flow) (SP X pins D) X.xe s4) X.xe { s' with heap := h3 } := by
          rw [hf]
          exact HandSPX.setFlight_upZ fl fun h4 hh4 up4 => wpAny_throw (tk _ _ ⟨a, B, sI, pins, σ1, H1, cls, d, rfl, J, nb, (up.trans up3).trans up4, .inr (.inr (by rw [hs]; exact hh4)), na, os, ag, w⟩)
        first
          | exact wpAny_bind (wpAny_pure (wpAny_bind up0))
          | exact wpAny_bind up0)
    | @cons x c ts b0 su q1 q2 hds2 l2 hc hsu r ih =>
      intro w
      obtain ⟨b, hb1, yes, no⟩ := w
      refine wpAny_handleBy_cons (codeAny_handlers_test ?_) (by intro q; cases q)
      have test : ∀ {Q : Value → Shared → Prop} {E : Value → Shared → Prop}, Q c { s' with heap := h3 } → wpAny (model X.prog X.w) (X.A.mark (some (.ref a))) (eval (.Name x q1) X.env) Q E { s' with heap := h3 } := fun q => by
        obtain ⟨hg, hdbg, hm | ⟨hm, hv, hnn⟩⟩ := hc
        · exact ld_glob (X := X.suite a ((a, o3) :: (X.pn ++ pins))) S3 hg hm q hdbg
        · exact ld_blt (X := X.suite a ((a, o3) :: (X.pn ++ pins))) S3 hg hm hv q hnn hdbg
      refine test ((PySem.W.exm_one (M := model X.prog X.w) J3.kIn LT hb1).here ?_)
      cases b with
      | false =>
        show wpAny _ X.A (handleBy (.ref a) X.env hds2) _ _ _
        exact ih (no rfl)
      | true =>
        refine codeAny_handlers_suite_as (HandSPX.lands_againZ fl fun h4 fl4 up4 => ?_)
        obtain ⟨o4, vs4, g4, z4, d4⟩ := fl4.there
        have S4 := (J.landed nb fl4.1 ((up.trans up3).trans up4) os ag : Inv X pins σ1 H1 { s' with heap := h4 }).suite g4 d4 na nL nF
        refine store_ok (X := X.suite a ((a, o4) :: (X.pn ++ pins))) (v := .ref a) S4 hN hi loc rfl (fun s5 S5 => ?_) (.inr hln)
        refine wpAny_mono ((hsu a o4 cls d (X.pn ++ pins) z4 ⟨_, d4⟩).run [] s5 _ H1 _ S5 (yes rfl a na)) (fun fl s6 res => ?_) (fun _ _ z => False.elim z)
        have close : ∀ {σ6 : L2.St} {H6 : Hp} {Q : Shared → Prop}, Inv (X.suite a ((a, o4) :: (X.pn ++ pins))) [] σ6 H6 s6 → (∀ s7, Inv X pins (σ6.set i none) H6 s7 → Q s7) →
            wpAny (model X.prog X.w) X.A (do bindName X.env n .none; unbindBehindTheSuite X.env n q2) (fun _ s7 => Q s7) X.xe s6 := fun S6 hq => gone_ok (S6.unsuite ok) hN hi hln hq
        match fl, res with
        | .next, ⟨_, _, S6, q6⟩ => exact close S6 fun s7 J7 => ⟨_, _, J7, q6⟩
        | .brk, ⟨_, _, S6, q6⟩ => exact close S6 fun s7 J7 => ⟨_, _, J7, q6⟩
        | .cont, ⟨_, _, S6, q6⟩ => exact close S6 fun s7 J7 => ⟨_, _, J7, q6⟩
        | .ret u, ⟨_, _, _, S6, r6, q6⟩ => exact close S6 fun s7 J7 => ⟨_, _, _, J7, r6, q6⟩
  refine wpAny_mono ((hb _ (X.pn ++ pins) xe0 take0 PassesOwn.looking).run [] s σ H D (I.toTry _) h) (fun fl s1 res => ?_) (fun _ _ z => z)
  match fl, res with
  | .next, ⟨σ1, H1, J, q⟩ => exact wpAny_execs_nil ⟨σ1, H1, J.ofTry ok, q⟩
  | .brk, ⟨σ1, H1, J, q⟩ => exact ⟨σ1, H1, J.ofTry ok, q⟩
  | .cont, ⟨σ1, H1, J, q⟩ => exact ⟨σ1, H1, J.ofTry ok, q⟩
  | .ret u, ⟨v, σ1, H1, J, r, q⟩ => exact ⟨v, σ1, H1, J.ofTry ok, r, q⟩
end
end G1

set_option maxHeartbeats 4000000
/-! What refusals want: not in over lists of texts, calls of an expression's value, calls by names, a try whose last clauses are never come to. -/
namespace G1
open PySem PySem.Spec PyProof.Rows L2
theorem pe_never {X : Cx} {e : Expr} : PE X e (fun _ _ _ => False) := ⟨fun _ _ _ _ _ _ h => h.elim⟩
/-- x not in a list of texts, x of any kind -/
def rNotInW (K : PySem.W.Frag) (n : Nat) : R2 := fun x y H Q => ∃ (p : Addr) (zs : List Str) (f : Str → Bool), y = .ref p ∧ SqL K H p (zs.map V.str) ∧ (∀ z ∈ zs, EqW K H n (.str z) x (f z)) ∧ Q (.bl (!zs.any f)) H
section
variable {X : Cx} {n : Nat}
theorem op_notInW (hu : X.A.units + (n + 1) < cLine) : OpR X (compareOp .NotIn) (rNotInW X.K n) := by
  intro pins s σ H x y v u Q I rx ry h
  obtain ⟨p, zs, f, rfl, hp, hf, q⟩ := h
  cases ry
  obtain ⟨is, r1, p1, _⟩ := I.list hp
  refine SeqAt.notIn_listAt (itemS f) p1.isList (fun w hw => ?_) ⟨.bl _, H, I, rfl, ?_⟩
  · obtain ⟨i, hi, e⟩ := List.mem_iff_getElem.mp (show w ∈ is by simpa using hw)
    obtain ⟨x1, hx1, rx1⟩ := vals_at r1 (i := i) (u := w) (by rw [← e]; exact List.getElem?_eq_getElem hi)
    rw [List.getElem?_map] at hx1
    obtain ⟨z, hz, rfl⟩ := Option.map_eq_some_iff.mp hx1
    have q1 := (hf z (List.mem_of_getElem? hz)).at I (A := X.A.in1) (by have := units_in1 X.A; omega) rx1 rx
    obtain ⟨k, rfl⟩ := rx1
    exact q1
  · rw [show is.toArray.any (itemS f) = is.any (itemS f) by simp, any_itemS r1]
    exact q
end
/-- the call of what an expression tells -/
def tCallX (f : Addr) (sp : Sp) (E : L2.St → XK) (tf : TE) (t : TA) : TE := fun σ H Q => tf σ H fun x H1 => x = .ref f ∧ t σ H1 fun vs H2 => sp vs H2 Q (E σ)
section
variable {X : Cx} {CX : CXT} {k : Nat} {f : Addr} {fd : FuncData} {ps : List Str} {sp : Sp} {E : L2.St → XK} {pos : Pos} {fe e : Expr} {es : List Expr} {tf : TE} {t : TA}
theorem pe_callX (F : FnOk X.prog X.w X.K X.mg X.base CX k f fd ps sp) (hr : Room k X.A) (hk : PySem.W.keepIn X.K (.ref f) = true) (hb : Binds X.K fd ps []) (hx : ∀ σ, PassesAt CX X σ (E σ)) (hf : PE X fe tf) (ha : PA X (e :: es) t)
    (he : eval (.Call fe (e :: es) [] pos) X.env = (do callWith pos (← eval fe X.env) [] (backTo pos (starEach (e :: es) X.env)) (backToKw pos (keywordEach [] X.env))) := by rfl)
    (hs : starEach (e :: es) X.env = (false, eval e X.env) :: starEach es X.env := by rfl) (hpl : (backTo pos (starEach es X.env)).any (·.1) = false := by rfl) : PE X (.Call fe (e :: es) [] pos) (tCallX f sp E tf t) := by
  constructor
  intro pins s0 σ H0 Q I0 h
  apply Call_ (he := he)
  refine thn (hf.run pins s0 σ H0 _ I0 h) fun u s1 z => ?_
  obtain ⟨x, H1, I1, rx, rfl, q1⟩ := z
  obtain rfl : u = Value.ref f := rx
  refine PySem.W.callWith_K (h₀ := X.base) I1.ok.mod.kin hk (thn (ha.run pos pins s1 σ H1 _ I1 q1) fun us s z => ?_) hs hpl
  obtain ⟨vs, H, I, r, q⟩ := z
  refine ⟨I.kIn, ?_⟩
  have r2 : Vals (vs ++ []) (us ++ []) := r.append .nil
  have q2 : sp (vs ++ []) H Q (E σ) := by rw [List.append_nil]; exact q
  have hl : (us ++ []).length = ps.length := by rw [← r2.length]; exact F.len _ _ _ _ q2
  refine wpAny_call (codeAny_mono (F.run X.A X.stack s H ⟨us, []⟩ (us ++ []) (vs ++ []) Q (E σ) hr I.env0 (hb s us I.kIn hl) r2 q2) fun r s' hq => ?_)
  match r, hq with
  | .error e, hq => exact hx σ pins H s e s' I hq
  | .ok (.ret u), hq => exact I.after hq
end
/-! ### calls by names alone -/
def gI {α : Type} (idx : List Nat) (us ws : List α) : List α := idx.filterMap fun i => (us ++ ws)[i]?
theorem gI_vals {vs zs : List V} {us ws : List Value} (r1 : Vals vs us) (r2 : Vals zs ws) : ∀ idx : List Nat, Vals (gI idx vs zs) (gI idx us ws)
  | [] => .nil
  | i :: idx => by
    have r := r1.append r2
    have ih := gI_vals r1 r2 idx
    unfold gI at ih ⊢
    rw [List.filterMap_cons, List.filterMap_cons]
    cases e : (vs ++ zs)[i]? with
    | none =>
      have e2 : (us ++ ws)[i]? = none := by
        rw [List.getElem?_eq_none_iff, ← r.length]
        exact List.getElem?_eq_none_iff.mp e
      rw [e2]
      exact ih
    | some v =>
      obtain ⟨u, hu, ru⟩ := r.get e
      rw [hu]
      exact .cons ru ih
theorem FunD.kbP {K : PySem.W.Frag} {x qual : Str} {params : Arguments} {body : List Stmt} {scope : Scope} {kws : List (Str × V)} {f : Addr} {fd : FuncData} {ps : List Str} (F : FunD K x qual params body scope [] kws f fd) (n : Nat) (ks : List Str) (idx : List Nat)
    (h : ∀ (kV doc pm : Value) (an : Option Addr) (cdv ct : Value) (us ws : List Value), us.length = n → ws.length = ks.length → bindArgs (PySem.W.fnOf x qual params body scope .none kV doc pm an cdv ct) ⟨us, ks.zip ws⟩ = pure (ps.zip (gI idx us ws))) :
    KBn K fd ps n ks (fun us ws => gI idx us ws) (fun vs zs => gI idx vs zs) := by
  obtain ⟨oc, od, dV, kV, doc, pm, an, cdv, ct, osl, rfl, lk, hcd, hD, hK⟩ := F.ex
  rcases hD with ⟨_, rfl⟩ | ⟨e, _⟩
  · exact ⟨fun s us ws X l1 l2 => .of_eq (h kV doc pm an cdv ct us ws l1 l2), fun r1 r2 => gI_vals r1 r2 idx⟩
  · exact absurd rfl e
def tCallN0 (m : Nat) (sp : Sp) (gV : List V → List V → List V) (E : XK) (tk : TA) : TE := fun σ H Q => tk σ H fun zs H2 => zs.length = m ∧ sp (gV [] zs) H2 Q E
def tMethN0 (C : Addr) (m : Str) (n : Nat) (sp : Sp) (gV : List V → List V → List V) (E : XK) (ta : TE) (tk : TA) : TE := fun σ H Q => ta σ H fun x H1 => ∃ a dx fs, x = .ref a ∧ H1 a = some (.ins C dx fs) ∧ fs.lookup m = none ∧ tk σ H1 fun zs H2 => zs.length = n ∧ sp (gV [x] zs) H2 Q E
section
variable {X : Cx} {CX : CXT} {k : Nat} {f C : Addr} {fd : FuncData} {ps ks : List Str} {sp : Sp} {E : XK} {x m : Str} {p pos apos : Pos} {o : Expr} {kws : List Keyword} {ta : TE} {tk : TA} {g : List Value → List Value → List Value} {gV : List V → List V → List V}
theorem pe_callN0 (F : FnOk X.prog X.w X.K X.mg X.base CX k f fd ps sp) (hr : Room k X.A) (hg : Gl X x) (hm : X.mg x = some (.ref f)) (hk : PySem.W.keepIn X.K (.ref f) = true) (hb : KBn X.K fd ps 0 ks g gV) (hx : Passes CX X E) (hkw : PK X kws tk)
    (hall : (backToKw pos (keywordEach kws X.env)).all (·.1.isSome) = true := by rfl) (hks : (backToKw pos (keywordEach kws X.env)).filterMap (·.1) = ks := by rfl) (hdb : (x == ("__debug__" : Str)) = false := by decide)
    (hpl : ((backTo pos (starEach [] X.env)).any (·.1) || (backToKw pos (keywordEach kws X.env)).any (·.1.isNone)) = false := by rfl) : PE X (.Call (.Name x p) [] kws pos) (tCallN0 ks.length sp gV E tk) := by
  constructor
  intro pins s σ H Q I h
  apply wpAny_Call_Name_kw (ld_glob I hg hm ?_ hdb)
  refine PySem.W.callWith_KW0 (h₀ := X.base) I.ok.mod.kin hk hall (thn (hkw.run pos pins s σ H _ I h) fun ws s1 z => ?_) hpl
  obtain ⟨zs, H1, I1, rz, l2, q⟩ := z
  refine ⟨I1.kIn, ?_⟩
  rw [hks]
  exact run_fnN (us := []) (vs := []) F hr hb hx I1 .nil rz rfl l2 q
theorem pe_methN0 {pl : Sem Bool} (he : PE X o ta) (c : Cls X.K C) (hm : Meth X.K C m f) (F : FnOk X.prog X.w X.K X.mg X.base CX k f fd ps sp) (hr : Room k X.A) (hb : KBn X.K fd ps 1 ks g gV) (hx : Passes CX X E) (hkw : PK X kws tk)
    (hall : (backToKw pos (keywordEach kws X.env)).all (·.1.isSome) = true := by rfl) (hks : (backToKw pos (keywordEach kws X.env)).filterMap (·.1) = ks := by rfl)
    (hpl : ((backTo pos (starEach [] X.env)).any (·.1) || (backToKw pos (keywordEach kws X.env)).any (·.1.isNone)) = false := by rfl)
    (ht : eval (.Call (.Attribute o m apos) [] kws pos) X.env = (do
      let ov ← eval o X.env
      standAt apos.atName
      let (f, first) ← holding [ov] (getMethod ov m pl)
      callWith pos f first (backTo pos (starEach [] X.env)) (backToKw pos (keywordEach kws X.env))) := by rfl) :
    PE X (.Call (.Attribute o m apos) [] kws pos) (tMethN0 C m ks.length sp gV E ta tk) := by
  constructor
  intro pins s σ H Q I h
  apply PySem.W.methodCall_KW (pl := pl) (he := ht)
  refine thn (he.run pins s σ H _ I h) fun u s1 z => ?_
  obtain ⟨x, H1, I1, rx, a, dx, fs, rfl, ea, l, q⟩ := z
  obtain rfl : u = Value.ref a := rx
  refine getmeth_ok I1 ea c hm l ?_
  refine PySem.W.callWith_KW0 (first := [.ref a]) (h₀ := X.base) I1.ok.mod.kin hm.kp hall (thn (hkw.run pos pins s1 σ H1 _ I1 q) fun ws s2 z => ?_) hpl
  obtain ⟨zs, H2, I2, rz, l2, q2⟩ := z
  refine ⟨I2.kIn, ?_⟩
  rw [hks]
  exact run_fnN (us := [.ref a]) (vs := [.ref a]) F hr hb hx I2 (.cons rfl .nil) rz rfl l2 q2
end
end G1

set_option maxHeartbeats 4000000
/-! Several except clauses, each with the exception's name; what stands behind them is never come to. -/
namespace G1
open PySem PySem.Spec PyProof.Rows L2
inductive HdsSo (X : Cx) (n : Str) : List ExceptHandler → List (Value × TsE) → Prop
  | stop {hds : List ExceptHandler} : HdsSo X n hds []
  | cons {x : Str} {c : Value} {ts : TsE} {b0 : Stmt} {su : List Stmt} {q1 q2 : Pos} {hds : List ExceptHandler} {l : List (Value × TsE)} : Names X x c →
      (∀ (a : Addr) (oe : Obj) (cls : Value) (d : Option Addr) (pn : List (Addr × Obj)), Zc cls d oe → (∃ vs, oe.data = .fields vs) → PSs (X.suite a ((a, oe) :: pn)) (b0 :: su) (ts a cls d)) → HdsSo X n hds l →
      HdsSo X n (.ExceptHandler (some (.Name x q1)) (some n) (b0 :: su) q2 :: hds) ((c, ts) :: l)
section
variable {X : Cx} {body : List Stmt} {h0 : ExceptHandler} {hds : List ExceptHandler} {l : List (Value × TsE)} {pos : Pos} {tb : WX → TS} {n : Str} {i : Nat}
theorem ps_try_some (hs : X.stack = X.env :: X.outer) (hf : X.env.frame = some X.env.locals) (hN : X.N.Nodup) (hi : X.N[i]? = some n) (hln : X.env.kindOf n = some .local)
    (hb : ∀ (W : WX) (pn : List (Addr × Obj)) (xe : Value → Shared → Prop), Takes (X.tr pn xe) W → PassesOwn (model X.prog X.w) X.A X.env xe → PSs (X.tr pn xe) body (tb W)) (hh : HdsSo X n (h0 :: hds) l) :
    PS X (.Try body (h0 :: hds) [] [] pos) (fun D σ H => tb (wAll X.K i (fun _ _ _ _ => False) D l) D σ H) := by
  refine ⟨fun pins s σ H D I h => wpAny_Try_except ?_⟩
  have ok := I.ok
  have frm : X.A.frames = some (X.env :: X.outer) := ok.frames.trans (by rw [hs])
  have loc : Loc X.env.scope n := .inl hln
  let xe0 : Value → Shared → Prop := fun e s1 => wpAny (model X.prog X.w) X.A (noteFrame e X.env) (fun _ s2 => wpAny (model X.prog X.w) X.A (setFlight e none) (fun _ s3 => wpAny (model X.prog X.w) X.A (handleBy e X.env (h0 :: hds)) (SP X pins D) X.xe s3) X.xe s2) X.xe s1
  have take0 : Takes (X.tr (X.pn ++ pins) xe0) (wAll X.K i (fun _ _ _ _ => False) D l) := fun u s' xx => by
    obtain ⟨a, B, sI, pins', σ1, H1, cls, d, rfl, Jx, nb, up, sky, na, os, ag, w⟩ := xx
    have J : Inv X pins σ1 H1 sI := Jx.ofTry ok
    refine Sky.land Zc.steady frm hf (by rw [← hs]; exact sky : Sky B (X.env :: X.outer) a (Zc cls d) X.env.locals s'.heap) fun h3 fl up3 => ?_
    have J3 : Inv X pins σ1 H1 { s' with heap := h3 } := J.landed nb fl.1 (up.trans up3) os ag
    obtain ⟨o3, vs3, g3, z3, d3⟩ := fl.there
    have off : a ∉ frs (X.env :: X.outer) := fun hm => by
      obtain ⟨_, o', e', no⟩ := fl.2.2.1.mem hm
      rw [g3] at e'
      cases e'
      exact no _ d3
    have nL : a ≠ X.env.locals := fun q => off (List.mem_filterMap.mpr ⟨X.env, List.mem_cons_self, hf.trans (by rw [q])⟩)
    have nF : a ∉ X.fs := fun hm => by
      obtain ⟨ev, hev, q⟩ := List.mem_filterMap.mp hm
      exact off (List.mem_filterMap.mpr ⟨ev, List.mem_cons_of_mem _ hev, q⟩)
    have S3 := J3.suite g3 d3 na nL nF
    have LT : PySem.W.Looks (model X.prog X.w) h3 (typeOf (.ref a)) cls := fun A Q E t kp q => wpAny_typeOf_ref (kp _ _ g3) (z3.1 ▸ q)
    suffices go : ∀ {hds' : List ExceptHandler} {l' : List (Value × TsE)}, HdsSo X n hds' l' → wAll X.K i (fun _ _ _ _ => False) D l' cls d σ1 H1 → wpAny (model X.prog X.w) X.A (handleBy (.ref a) X.env hds') (SP X pins D) X.xe { s' with heap := h3 } from go hh w
    intro hds' l' hk
    induction hk with
    | stop => exact fun w => False.elim w
    | @cons x c ts b0 su q1 q2 hds2 l2 hc hsu r ih =>
      intro w
      obtain ⟨b, hb1, yes, no⟩ := w
      refine wpAny_handleBy_cons (codeAny_handlers_test ?_) (by intro q; cases q)
      have test : ∀ {Q : Value → Shared → Prop} {E : Value → Shared → Prop}, Q c { s' with heap := h3 } → wpAny (model X.prog X.w) (X.A.mark (some (.ref a))) (eval (.Name x q1) X.env) Q E { s' with heap := h3 } := fun q => by
        obtain ⟨hg, hdbg, hm | ⟨hm, hv, hnn⟩⟩ := hc
        · exact ld_glob (X := X.suite a ((a, o3) :: (X.pn ++ pins))) S3 hg hm q hdbg
        · exact ld_blt (X := X.suite a ((a, o3) :: (X.pn ++ pins))) S3 hg hm hv q hnn hdbg
      refine test ((PySem.W.exm_one (M := model X.prog X.w) J3.kIn LT hb1).here ?_)
      cases b with
      | false =>
        show wpAny _ X.A (handleBy (.ref a) X.env hds2) _ _ _
        exact ih (no rfl)
      | true =>
        refine codeAny_handlers_suite_as (HandSPX.lands_againZ fl fun h4 fl4 up4 => ?_)
        obtain ⟨o4, vs4, g4, z4, d4⟩ := fl4.there
        have S4 := (J.landed nb fl4.1 ((up.trans up3).trans up4) os ag : Inv X pins σ1 H1 { s' with heap := h4 }).suite g4 d4 na nL nF
        refine store_ok (X := X.suite a ((a, o4) :: (X.pn ++ pins))) (v := .ref a) S4 hN hi loc rfl (fun s5 S5 => ?_) (.inr hln)
        refine wpAny_mono ((hsu a o4 cls d (X.pn ++ pins) z4 ⟨_, d4⟩).run [] s5 _ H1 _ S5 (yes rfl a na)) (fun fl s6 res => ?_) (fun _ _ z => False.elim z)
        have close : ∀ {σ6 : L2.St} {H6 : Hp} {Q : Shared → Prop}, Inv (X.suite a ((a, o4) :: (X.pn ++ pins))) [] σ6 H6 s6 → (∀ s7, Inv X pins (σ6.set i none) H6 s7 → Q s7) →
            wpAny (model X.prog X.w) X.A (do bindName X.env n .none; unbindBehindTheSuite X.env n q2) (fun _ s7 => Q s7) X.xe s6 := fun S6 hq => gone_ok (S6.unsuite ok) hN hi hln hq
        match fl, res with
        | .next, ⟨_, _, S6, q6⟩ => exact close S6 fun s7 J7 => ⟨_, _, J7, q6⟩
        | .brk, ⟨_, _, S6, q6⟩ => exact close S6 fun s7 J7 => ⟨_, _, J7, q6⟩
        | .cont, ⟨_, _, S6, q6⟩ => exact close S6 fun s7 J7 => ⟨_, _, J7, q6⟩
        | .ret u, ⟨_, _, _, S6, r6, q6⟩ => exact close S6 fun s7 J7 => ⟨_, _, _, J7, r6, q6⟩
  refine wpAny_mono ((hb _ (X.pn ++ pins) xe0 take0 PassesOwn.looking).run [] s σ H D (I.toTry _) h) (fun fl s1 res => ?_) (fun _ _ z => z)
  match fl, res with
  | .next, ⟨σ1, H1, J, q⟩ => exact wpAny_execs_nil ⟨σ1, H1, J.ofTry ok, q⟩
  | .brk, ⟨σ1, H1, J, q⟩ => exact ⟨σ1, H1, J.ofTry ok, q⟩
  | .cont, ⟨σ1, H1, J, q⟩ => exact ⟨σ1, H1, J.ofTry ok, q⟩
  | .ret u, ⟨v, σ1, H1, J, r, q⟩ => exact ⟨v, σ1, H1, J.ofTry ok, r, q⟩
end
end G1

set_option maxHeartbeats 8000000
namespace K08
open PySem PySem.Spec PyProof.Rows L2 G1
/-! ### what is refused, and how -/
/-- raised with the very thing -/
def Rz (K : PySem.W.Frag) (x : Str) (v : V) (H : Hp) (E : XK) : Prop := ∀ (d : Addr) (H' : Hp), Same H H' → H d = none → H' d = some (.xd [("value", v)]) → E (.ref (ga K x)) (some d) H'
theorem Rz.same {K : PySem.W.Frag} {x : Str} {v : V} {H H1 : Hp} {E : XK} (h : Rz K x v H E) (s : Same H H1) : Rz K x v H1 E := fun d H' s' nd hd => h d H' (s.trans s') (s.free nd) hd
def inO (xs : List Str) : Option Str → Bool
  | some z => decide (z ∈ xs)
  | none => false
def OddP (K : PySem.W.Frag) (C : Addr) (H : Hp) (v : V) : Prop := ∃ T : String, TyX K H v (.type T) ∧ PySem.W.kitOne K (.type T) (.ref C) = some false
def OddC (K : PySem.W.Frag) (H : Hp) (many : Nat) (v : V) : Prop := ((∃ T : String, TyX K H v (.type T) ∧ kitB T "int" = some false) ∨ ∃ b, v = .bl b) ∨ ∃ i : Int, v = .int i ∧ (i < 0 ∨ (many : Int) ≤ i)
def OddN (K : PySem.W.Frag) (H : Hp) (xs : List Str) (v : V) : Prop := ∃ o, RIt K H v o ∧ inO xs o = false
def OddF (K : PySem.W.Frag) (H : Hp) (xs : List Str) (v : V) : Prop := (∃ T : String, TyX K H v (.type T) ∧ kitB T "list" = some false) ∨
  (∃ (l : Addr) (vs : List V) (os : List (Option Str)), v = .ref l ∧ H l = some (.lst vs) ∧ vs.length ≤ 60 ∧ RItL K H vs os ∧ os.all (inO xs) = false) ∨
  ∃ (l : Addr) (zs : List Str), v = .ref l ∧ H l = some (.lst (zs.map V.str)) ∧ zs.length ≤ 60 ∧ (lotB xs zs && decide (0 < zs.length)) = false
theorem OddP.same {K : PySem.W.Frag} {C : Addr} {H H' : Hp} {v : V} (h : OddP K C H v) (s : Same H H') : OddP K C H' v := by
  obtain ⟨T, t, n⟩ := h
  exact ⟨T, TyX.same t s, n⟩
theorem OddC.same {K : PySem.W.Frag} {H H' : Hp} {m : Nat} {v : V} (h : OddC K H m v) (s : Same H H') : OddC K H' m v := by
  rcases h with (⟨T, t, n⟩ | h) | h
  · exact .inl (.inl ⟨T, TyX.same t s, n⟩)
  · exact .inl (.inr h)
  · exact .inr h
theorem OddN.same {K : PySem.W.Frag} {H H' : Hp} {xs : List Str} {v : V} (h : OddN K H xs v) (s : Same H H') : OddN K H' xs v := by
  obtain ⟨o, r, n⟩ := h
  exact ⟨o, r.same s, n⟩
theorem OddF.same {K : PySem.W.Frag} {H H' : Hp} {xs : List Str} {v : V} (h : OddF K H xs v) (s : Same H H') : OddF K H' xs v := by
  rcases h with ⟨T, t, n⟩ | ⟨l, vs, os, rfl, h1, h2, h3, h4⟩ | ⟨l, zs, rfl, h1, h2⟩
  · exact .inl ⟨T, TyX.same t s, n⟩
  · exact .inr (.inl ⟨l, vs, os, rfl, s _ _ h1, h2, h3.same s, h4⟩)
  · exact .inr (.inr ⟨l, zs, rfl, s _ _ h1, h2⟩)
theorem any_mem {xs : List Str} {w : Str} : (xs.any fun z => eqV (.str z) (.str w)) = decide (w ∈ xs) := by
  induction xs with
  | nil => simp
  | cons x xs ih =>
    rw [List.any_cons, ih]
    show ((x == w) || decide (w ∈ xs)) = decide (w ∈ x :: xs)
    by_cases e : x = w
    · subst e
      simp
    · have e2 : ¬ w = x := fun q => e q.symm
      simp [e, e2]
theorem RIt.inW {K : PySem.W.Frag} {H : Hp} {v : V} {o : Option Str} (h : RIt K H v o) (xs : List Str) : ∃ f : Str → Bool, (∀ z ∈ xs, EqW K H 1 (.str z) v (f z)) ∧ xs.any f = inO xs o := by
  have no : ∀ {f : Str → Bool}, (∀ z, f z = false) → xs.any f = false := fun {f} h => by
    rw [List.any_eq_false]
    intro z _ q
    rw [h z] at q
    cases q
  cases h with
  | str w => exact ⟨fun z => eqV (.str z) (.str w), fun z _ => .flat rfl rfl, any_mem⟩
  | non => exact ⟨fun z => eqV (.str z) .non, fun z _ => .flat rfl rfl, no fun _ => rfl⟩
  | bl b => exact ⟨fun z => eqV (.str z) (.bl b), fun z _ => .flat rfl rfl, no fun _ => rfl⟩
  | int i => exact ⟨fun z => eqV (.str z) (.int i), fun z _ => .flat rfl rfl, no fun _ => rfl⟩
  | lst e => exact ⟨fun _ => false, fun z _ => .strList (SqL.of e), no fun _ => rfl⟩
  | tup e => exact ⟨fun _ => false, fun z _ => .strTup (SqT.of e), no fun _ => rfl⟩
  | dK e => exact ⟨fun _ => false, fun z _ => .strDict e, no fun _ => rfl⟩
def spChkPX (K : PySem.W.Frag) (C : Addr) : Sp := fun vs H Q E => ∃ v, vs = [v] ∧ OddP K C H v ∧ Rz K "InvalidPanel" v H E
def spIsCountX (K : PySem.W.Frag) : Sp := fun vs H Q _ => ∃ v, vs = [v] ∧ ((∃ T : String, TyX K H v (.type T) ∧ kitB T "int" = some false) ∨ ∃ b, v = .bl b) ∧ Q (.bl false) H
def spChkAtX (K : PySem.W.Frag) : Sp := fun vs H Q E => ∃ (m : Nat) (v : V), vs = [.int (m : Int), v] ∧ OddC K H m v ∧ Rz K "InvalidCount" v H E
def spChkNX (K : PySem.W.Frag) : Sp := fun vs H Q E => ∃ (n : Addr) (xs : List Str) (v : V), vs = [.ref n, v] ∧ SqL K H n (xs.map V.str) ∧ OddN K H xs v ∧ Rz K "UnknownEntry" v H E
def spIsLotX (K : PySem.W.Frag) : Sp := fun vs H Q _ => ∃ (n : Addr) (xs : List Str) (v : V), vs = [.ref n, v] ∧ SqL K H n (xs.map V.str) ∧ ((∃ T : String, TyX K H v (.type T) ∧ kitB T "list" = some false) ∨
  (∃ (l : Addr) (vs : List V) (os : List (Option Str)), v = .ref l ∧ H l = some (.lst vs) ∧ vs.length ≤ 60 ∧ RItL K H vs os ∧ os.all (inO xs) = false)) ∧ ∀ H', Same H H' → Q (.bl false) H'
def spIsFieldX (K : PySem.W.Frag) : Sp := fun vs H Q _ => ∃ (n : Addr) (xs : List Str) (v : V), vs = [.ref n, v] ∧ SqL K H n (xs.map V.str) ∧ OddF K H xs v ∧ ∀ H', Same H H' → Q (.bl false) H'
def spChkFX (K : PySem.W.Frag) : Sp := fun vs H Q E => ∃ (n : Addr) (xs : List Str) (v : V), vs = [.ref n, v] ∧ SqL K H n (xs.map V.str) ∧ OddF K H xs v ∧ Rz K "InvalidField" v H E
section
variable {P : Program} {w : World} {K : PySem.W.Frag} {mg : Str → Option Value} {base : Heap} {C : Addr}
theorem ok_chkPX {f : Addr} {fd : FuncData} (F : FnP K "check_panel" sChkP f fd) (LP : LibP mg) (gP : mg "Panel" = some (.ref C)) (R : ErrC P w K mg base "InvalidPanel") : FnOk P w K mg base (L2.CX P w) 3 f fd ["panel"] (spChkPX K C) := by
  refine F.ok scChkP (fun vs H Q E h => ?_) (fun cdv A outer s H vs Q E hr h => ?_)
  · obtain ⟨_, rfl, _⟩ := h
    rfl
  · obtain ⟨v, rfl, ⟨T, ty, nk⟩, k⟩ := h
    refine ⟨_, pss_one (ps_if (pt_not (pt_val (pe_callB call_isi (by rfl) LP.isi (by decide +kernel) (pa_cons (pv 0) (pa_cons (pe_glob (v := .ref C) (by rfl) gP rfl) pa_nil))))) (pss_one (ps_raiseV rfl R hr (takes_of rfl rfl rfl rfl) (by rfl) (pv 0))) pss_nil), ?_⟩
    exact ⟨_, rfl, v, .ref C, .type T, .ref C, false, rfl, .own C, ty, nk, _, rfl, _, rfl, fun d H' s nd hd => k d H' s nd hd⟩
theorem ok_isCountX {f : Addr} {fd : FuncData} (F : FnP K "is_count" sIsCount f fd) (LP : LibP mg) (LZ : LibZ mg) : FnOk P w K mg base CX0 1 f fd ["value"] (spIsCountX K) := by
  refine okN F scIsCount (fun vs H Q E h => ?_) (fun cdv A outer s H vs Q E hr h => ?_)
  · obtain ⟨_, rfl, _⟩ := h
    rfl
  · obtain ⟨v, rfl, h, k⟩ := h
    refine ⟨_, pss_one (ps_ret (pe_and (pe_callB call_isi (by rfl) LP.isi (by decide +kernel) (pa_cons (pv 0) (pa_cons (pe_bltn (v := .ty "int") (by rfl) LZ.int (by decide +kernel) rfl) pa_nil)))
      (pe_and (pe_not (pe_callB call_isi (by rfl) LP.isi (by decide +kernel) (pa_cons (pv 0) (pa_cons (pe_bltn (v := .ty "bool") (by rfl) LZ.bool (by decide +kernel) rfl) pa_nil)))) (pe_one (pe_cmpR op_ge (pv 0) pe_int (nomark _)))))), ?_⟩
    rcases h with ⟨T, ty, nk⟩ | ⟨b, rfl⟩
    · exact ⟨_, rfl, v, .ty "int", .type T, .type "int", false, rfl, .ty _, ty, kit_ty nk, false, rfl, iteF k⟩
    · refine ⟨_, rfl, .bl b, .ty "int", .type "bool", .type "int", true, rfl, .ty _, .base (.bl b), kit_ty (by decide +kernel), true, rfl, iteT ?_⟩
      exact ⟨_, rfl, .bl b, .ty "bool", .type "bool", .type "bool", true, rfl, .ty _, .base (.bl b), kit_ty (by decide +kernel), _, rfl, _, rfl, iteF k⟩
theorem ok_chkAtX {f fA : Addr} {fd fdA : FuncData} (F : FnP K "check_position" sChkAt f fd) (R : ErrC P w K mg base "InvalidCount") (FA : FnP K "is_count" sIsCount fA fdA) (gA : mg "is_count" = some (.ref fA)) (GA : FnOk P w K mg base CX0 1 fA fdA ["value"] spIsCount) (GX : FnOk P w K mg base CX0 1 fA fdA ["value"] (spIsCountX K)) :
    FnOk P w K mg base (L2.CX P w) 3 f fd ["many", "at"] (spChkAtX K) := by
  have bA : Binds K fdA ["value"] [] := FA.bindsN fun _ _ _ _ _ _ us hl => match us, hl with | [_], _ => rfl
  refine F.ok scChkAt (fun vs H Q E h => ?_) (fun cdv A outer s H vs Q E hr h => ?_)
  · obtain ⟨_, _, rfl, _⟩ := h
    rfl
  · obtain ⟨m, v, rfl, h, k⟩ := h
    have r1 : Room 1 (A.deeper (envOfC "check_position" (defScope sChkAt) s.heap.objs.size f cdv)) := hr.mono (by decide)
    rcases h with h | ⟨i, rfl, h⟩
    · refine ⟨_, pss_one (ps_if (PW.pt (pw_or (pt_not (pt_val (pe_call GX r1 (by rfl) gA FA.kp bA .nil pass0 (pa_cons (pv 1) pa_nil)))) (pw_or1 (pt_cmpR op_ge (pv 1) (pv 0) (nomark _))))) (pss_one (ps_raiseV rfl R hr (takes_of rfl rfl rfl rfl) (by rfl) (pv 1))) pss_nil), ?_⟩
      exact ⟨_, rfl, v, rfl, h, _, rfl, _, rfl, fun d H' s nd hd => k d H' s nd hd⟩
    · refine ⟨_, pss_one (ps_if (PW.pt (pw_or (pt_not (pt_val (pe_call GA r1 (by rfl) gA FA.kp bA .nil pass0 (pa_cons (pv 1) pa_nil)))) (pw_or1 (pt_cmpR op_ge (pv 1) (pv 0) (nomark _))))) (pss_one (ps_raiseV rfl R hr (takes_of rfl rfl rfl rfl) (by rfl) (pv 1))) pss_nil), ?_⟩
      refine ⟨_, rfl, i, rfl, ?_⟩
      by_cases e : 0 ≤ i
      · rw [decide_eq_true e]
        refine ⟨_, rfl, _, rfl, _, rfl, _, _, rfl, rfl, ?_⟩
        exact ⟨_, rfl, ite2 (fun _ => ⟨_, rfl, fun d H' s nd hd => k d H' s nd hd⟩) fun q => absurd (decide_eq_true (show i ≥ (m : Int) by omega)) q⟩
      · rw [decide_eq_false e]
        exact ⟨_, rfl, _, rfl, fun d H' s nd hd => k d H' s nd hd⟩
theorem ok_chkNX {f : Addr} {fd : FuncData} (F : FnP K "check_entry" sChkN f fd) (R : ErrC P w K mg base "UnknownEntry") : FnOk P w K mg base (L2.CX P w) 3 f fd ["entries", "entry"] (spChkNX K) := by
  refine F.ok scChkN (fun vs H Q E h => ?_) (fun cdv A outer s H vs Q E hr h => ?_)
  · obtain ⟨_, _, _, rfl, _⟩ := h
    rfl
  · obtain ⟨n, xs, v, rfl, hn, ⟨o, r, no⟩, k⟩ := h
    have hun := hr.un
    have hu2 : (A.deeper (envOfC "check_entry" (defScope sChkN) s.heap.objs.size f cdv)).units + (1 + 1) < cLine := by omega
    refine ⟨_, pss_one (ps_if (pt_cmpR (op_notInW (n := 1) hu2) (pv 1) (pv 0) (by rfl)) (pss_one (ps_raiseV rfl R hr (takes_of rfl rfl rfl rfl) (by rfl) (pv 1))) pss_nil), ?_⟩
    obtain ⟨g, h1, h2⟩ := r.inW xs
    refine ⟨_, rfl, _, rfl, n, xs, g, rfl, hn, h1, ?_⟩
    rw [h2, no]
    exact ⟨_, rfl, _, rfl, fun d H' s nd hd => k d H' s nd hd⟩
theorem ok_isLotX {f : Addr} {fd : FuncData} (F : FnP K "is_lot" sIsLot f fd) (LP : LibP mg) : FnOk P w K mg base CX0 2 f fd ["entries", "value"] (spIsLotX K) := by
  refine okN F scIsLot (fun vs H Q E h => ?_) (fun cdv A outer s H vs Q E hr h => ?_)
  · obtain ⟨_, _, _, rfl, _⟩ := h
    rfl
  · obtain ⟨n, xs, v, rfl, hn, h, k⟩ := h
    have hun := hr.un
    have hu2 : (A.deeper (envOfC "is_lot" (defScope sIsLot) s.heap.objs.size f cdv)).units + (1 + 1) < cLine := by omega
    rcases h with ⟨T, ty, nk⟩ | ⟨l, vs, os, rfl, hl, le, ho, na⟩
    · refine ⟨_, pss_cons (ps_if (pt_not (pt_val (pe_callB call_isi (by rfl) LP.isi (by decide +kernel) (pa_cons (pv 1) (pa_cons (pe_bltn (v := .ty "list") (by rfl) LP.list (by decide +kernel) rfl) pa_nil))))) (pss_one (ps_ret pe_bl)) pss_nil) pss_never, ?_⟩
      exact ⟨_, rfl, v, .ty "list", .type T, .type "list", false, rfl, .ty _, ty, kit_ty nk, false, rfl, iteT (k H (Same.refl H))⟩
    · refine ⟨_, pss_cons (ps_if (pt_not (pt_val (pe_callB call_isi (by rfl) LP.isi (by decide +kernel) (pa_cons (pv 1) (pa_cons (pe_bltn (v := .ty "list") (by rfl) LP.list (by decide +kernel) rfl) pa_nil))))) (pss_one ps_never) pss_nil)
        (pss_one (ps_ret (pe_and (pe_callB (cr_all rfl) (by rfl) LP.all (by decide +kernel) (pa_cons
            (pe_lc (own := [("name", 2)]) (g := gName 2) (tt := tYes) (te := tOp (rInW K 1) (tVar 2) (tVar 0)) rfl scIsLot.nd (pi_list (pv 1))
              (blkOk_by (N := ["entries", "value", "name"]) (sc := defScope sIsLot) (by decide +kernel)) (fun _ _ _ _ _ => pg_name (i := 2) scIsLot.nd rfl (Or.inl rfl)) (fun _ _ _ _ _ => pts_nil)
              (fun _ _ _ _ _ => pe_cmpR (op_inW (n := 1) hu2) (pv 2) (pv 0) (by rfl))) pa_nil))
          (pe_one pe_never)))), ?_⟩
      refine ⟨_, rfl, .ref l, .ty "list", .type "list", .type "list", true, rfl, .ty _, .base (.lst hl), kit_ty (by decide +kernel), true, rfl, iteF ?_⟩
      refine ⟨_, rfl, l, rfl, ⟨_, SqL.of hl⟩, fun D hD => lc_list (K := K) (a := l) (xs := vs) (fun i H' => H' D = some (.lst ((os.take i).map fun o => V.bl (inO xs o))) ∧ Same H H') ⟨upd_same, sn hD⟩ (fun i H' _ h => SqL.of (h.2 _ _ hl)) ?_ ?_⟩
      · rintro i y H' hi ⟨q1, q2⟩
        obtain ⟨o, ho1, r⟩ := ho.at hi
        obtain ⟨g, h1, h2⟩ := (r.same q2).inW xs
        refine ⟨rfl, _, rfl, _, rfl, n, xs, g, rfl, q2.seq hn, h1, _, q1, ?_, ?_, fun b o e => ?_⟩
        · refine small1000 ?_
          rw [List.length_map]
          have := List.length_take_le' i os
          have := ho.len
          omega
        · rw [upd_same, List.take_succ, ho1, List.map_append, h2]
          rfl
        · rw [upd_ne (ne_of_none e hD)]
          exact q2 _ _ e
      · rintro H' ⟨q1, q2⟩
        rw [ho.len, List.take_length] at q1
        refine ⟨D, os.map (inO xs), rfl, SqL.of (by rw [q1, List.map_map]; rfl), false, ?_, iteF (k H' q2)⟩
        rw [List.all_map]
        exact congrArg V.bl na
theorem ok_isFieldX {f fA : Addr} {fd fdA : FuncData} (F : FnP K "is_field" sIsField f fd) (L : Lib K mg) (FA : FnP K "is_lot" sIsLot fA fdA) (gA : mg "is_lot" = some (.ref fA)) (GA : FnOk P w K mg base CX0 2 fA fdA ["entries", "value"] (spIsLot K)) (GX : FnOk P w K mg base CX0 2 fA fdA ["entries", "value"] (spIsLotX K)) :
    FnOk P w K mg base CX0 3 f fd ["entries", "value"] (spIsFieldX K) := by
  have bA : Binds K fdA ["entries", "value"] [] := FA.bindsN fun _ _ _ _ _ _ us hl => match us, hl with | [_, _], _ => rfl
  refine okN F scIsField (fun vs H Q E h => ?_) (fun cdv A outer s H vs Q E hr h => ?_)
  · obtain ⟨_, _, _, rfl, _⟩ := h
    rfl
  · obtain ⟨n, xs, v, rfl, hn, h, k⟩ := h
    have go : ((∃ T : String, TyX K H v (.type T) ∧ kitB T "list" = some false) ∨ (∃ (l : Addr) (vs : List V) (os : List (Option Str)), v = .ref l ∧ H l = some (.lst vs) ∧ vs.length ≤ 60 ∧ RItL K H vs os ∧ os.all (inO xs) = false)) ∨
        ∃ (l : Addr) (zs : List Str), v = .ref l ∧ H l = some (.lst (zs.map V.str)) ∧ zs.length ≤ 60 ∧ (lotB xs zs && decide (0 < zs.length)) = false := by
      rcases h with h | h | h
      · exact .inl (.inl h)
      · exact .inl (.inr h)
      · exact .inr h
    rcases go with h | ⟨l, zs, rfl, hl, le, no⟩
    · refine ⟨_, pss_one (ps_ret (pe_and (pe_call GX hr (by rfl) gA FA.kp bA .nil pass0 (pa_cons (pv 0) (pa_cons (pv 1) pa_nil))) (pe_one pe_never))), ?_⟩
      exact ⟨_, rfl, _, rfl, n, xs, v, rfl, hn, h, fun H1 s1 => ⟨_, rfl, iteF (k H1 s1)⟩⟩
    · refine ⟨_, pss_one (ps_ret (pe_and (pe_call GA hr (by rfl) gA FA.kp bA .nil pass0 (pa_cons (pv 0) (pa_cons (pv 1) pa_nil))) (pe_one (pe_cmpR op_gt (pe_callB call_len_seq (by rfl) L.len PySem.boot_len (pa_cons (pv 1) pa_nil)) pe_int (nomark _))))), ?_⟩
      refine ⟨_, rfl, _, rfl, n, l, xs, zs, rfl, hn, hl, by omega, fun H1 s1 => ⟨_, rfl, ?_⟩⟩
      cases e : lotB xs zs with
      | false => exact iteF (k H1 s1)
      | true =>
        refine iteT ⟨_, rfl, l, _, rfl, .inl (SqL.of (s1 _ _ hl)), _, _, rfl, rfl, ?_⟩
        rw [List.length_map]
        rw [e, Bool.true_and] at no
        have z : ¬ 0 < zs.length := of_decide_eq_false no
        have e2 : decide ((0 : Int) < (zs.length : Int)) = false := decide_eq_false (by omega)
        show Q (.bl (decide ((0 : Int) < (zs.length : Int)))) H1
        rw [e2]
        exact k H1 s1
theorem ok_chkFX {f fA : Addr} {fd fdA : FuncData} (F : FnP K "check_field" sChkF f fd) (R : ErrC P w K mg base "InvalidField") (FA : FnP K "is_field" sIsField fA fdA) (gA : mg "is_field" = some (.ref fA)) (GX : FnOk P w K mg base CX0 3 fA fdA ["entries", "value"] (spIsFieldX K)) :
    FnOk P w K mg base (L2.CX P w) 4 f fd ["entries", "field"] (spChkFX K) := by
  have bA : Binds K fdA ["entries", "value"] [] := FA.bindsN fun _ _ _ _ _ _ us hl => match us, hl with | [_, _], _ => rfl
  refine F.ok scChkF (fun vs H Q E h => ?_) (fun cdv A outer s H vs Q E hr h => ?_)
  · obtain ⟨_, _, _, rfl, _⟩ := h
    rfl
  · obtain ⟨n, xs, v, rfl, hn, h, k⟩ := h
    have r2 : Room 2 (A.deeper (envOfC "check_field" (defScope sChkF) s.heap.objs.size f cdv)) := hr.mono (by decide)
    refine ⟨_, pss_one (ps_if (pt_not (pt_val (pe_call GX hr (by rfl) gA FA.kp bA .nil pass0 (pa_cons (pv 0) (pa_cons (pv 1) pa_nil))))) (pss_one (ps_raiseV rfl R r2 (takes_of rfl rfl rfl rfl) (by rfl) (pv 1))) pss_nil), ?_⟩
    exact ⟨_, rfl, _, rfl, n, xs, v, rfl, hn, h, fun H1 s1 => ⟨_, rfl, _, rfl, fun d H' s nd hd => k d H' (s1.trans s) (s1.free nd) hd⟩⟩
end
end K08

set_option maxHeartbeats 8000000
namespace K08
open PySem PySem.Spec PyProof.Rows L2 G1
/-! ### equal rows -/
def atR (rs : List (List Str)) (i : Nat) : List Str := rs.getD i []
def firstsTo (rs : List (List Str)) (n : Nat) : List Nat := (List.range n).filter fun i => decide (rs.idxOf (atR rs i) = i)
def grpTo (rs : List (List Str)) (n : Nat) (r : List Str) : List Nat := (List.range n).filter fun j => decide (atR rs j = r)
def eqRows (rs : List (List Str)) : List (List Nat) := (firstsTo rs rs.length).map fun i => grpTo rs rs.length (atR rs i)
def plainRows (rs : List (List Str)) : List (List Str) := (firstsTo rs rs.length).map (atR rs)
theorem atR_of {rs : List (List Str)} {i : Nat} {r : List Str} (h : rs[i]? = some r) : atR rs i = r := by
  unfold atR
  rw [List.getD_eq_getElem?_getD, h]
  rfl
theorem range_filter {p : Nat → Bool} {n : Nat} : (List.range (n + 1)).filter p = (List.range n).filter p ++ (if p n = true then [n] else []) := by
  rw [List.range_succ, List.filter_append]
  congr 1
  rw [List.filter_cons]
  cases p n <;> rfl
/-- lists of positions at these places -/
inductive NatsAt (H : Hp) : List Addr → List (List Nat) → Prop
  | nil : NatsAt H [] []
  | cons {a : Addr} {r : List Nat} {as : List Addr} {rs : List (List Nat)} : H a = some (.lst (natsV r)) → NatsAt H as rs → NatsAt H (a :: as) (r :: rs)
theorem NatsAt.keep {H H' : Hp} {as : List Addr} {rs : List (List Nat)} (h : NatsAt H as rs) (k : ∀ a ∈ as, ∀ o, H a = some o → H' a = some o) : NatsAt H' as rs := by
  induction h with
  | nil => exact .nil
  | cons e _ ih => exact .cons (k _ List.mem_cons_self _ e) (ih fun a ha => k a (List.mem_cons_of_mem _ ha))
theorem NatsAt.same {H H' : Hp} {as : List Addr} {rs : List (List Nat)} (h : NatsAt H as rs) (s : Same H H') : NatsAt H' as rs := h.keep fun a _ o e => s a o e
theorem NatsAt.snoc {H : Hp} {a : Addr} {r : List Nat} {as : List Addr} {rs : List (List Nat)} (h : NatsAt H as rs) (e : H a = some (.lst (natsV r))) : NatsAt H (as ++ [a]) (rs ++ [r]) := by
  induction h with
  | nil => exact .cons e .nil
  | cons e2 _ ih => exact .cons e2 ih
theorem NatsAt.len {H : Hp} {as : List Addr} {rs : List (List Nat)} (h : NatsAt H as rs) : as.length = rs.length := by
  induction h with
  | nil => rfl
  | cons _ _ ih => rw [List.length_cons, List.length_cons, ih]
/-! ### deep equality of rows -/
theorem eqv_strs : ∀ {xs ys : List Str}, PyData.eqvAll (xs.map PyData.str) (ys.map PyData.str) = decide (xs = ys)
  | [], [] => by simp [PyData.eqvAll]
  | [], y :: ys => by simp [PyData.eqvAll]
  | x :: xs, [] => by simp [PyData.eqvAll]
  | x :: xs, y :: ys => by
    have ih := @eqv_strs xs ys
    show (PyData.eqv (.str x) (.str y) && PyData.eqvAll (xs.map PyData.str) (ys.map PyData.str)) = _
    rw [ih]
    show ((x == y) && decide (xs = ys)) = _
    by_cases e : x = y
    · subst e
      simp
    · rw [beq_eq_false_iff_ne.mpr e, Bool.false_and, decide_eq_false (fun q => e (by injection q))]
theorem eqv_rd {a b : List Str} : PyData.eqv (rd a) (rd b) = decide (a = b) := by
  show PyData.eqvAll (a.map PyData.str) (b.map PyData.str) = _
  exact eqv_strs
/-- rows.index(row), rows with small names -/
theorem idx_rows {rs : List (List Str)} {i : Nat} {r : List Str} (h : rs[i]? = some r) : (rs.map rd)[rs.idxOf r]? = some (rd r) ∧ PyData.eqv (rd r) (rd r) = true ∧ ∀ (m : Nat) (z : PyData), m < rs.idxOf r → (rs.map rd)[m]? = some z → PyData.eqv z (rd r) = false := by
  have hm : r ∈ rs := List.mem_of_getElem? h
  have lt := List.idxOf_lt_length_of_mem hm
  refine ⟨?_, by rw [eqv_rd, decide_eq_true rfl], fun m y lm e => ?_⟩
  · rw [List.getElem?_map, List.getElem?_eq_getElem lt, List.getElem_idxOf lt]
    rfl
  · rw [List.getElem?_map] at e
    obtain ⟨x, hx, rfl⟩ := Option.map_eq_some_iff.mp e
    rw [eqv_rd]
    have lm2 : m < rs.length := by omega
    rw [List.getElem?_eq_getElem lm2] at hx
    have hx2 : rs[m] = x := Option.some.inj hx
    have := List.not_of_lt_findIdx (p := (· == r)) (xs := rs) lm
    rw [← hx2]
    refine decide_eq_false fun q => ?_
    rw [q] at this
    simp at this
/-- what is known of entries and rows -/
structure Good (xs : List Str) (rs : List (List Str)) : Prop where
  nm : ∀ z ∈ xs, Nm z
  nd : xs.Nodup
  l1 : 1 ≤ xs.length
  l6 : xs.length ≤ 7
  so : sortedS xs = true
  pr : ∀ r ∈ rs, r.Perm xs
  r1 : 1 ≤ rs.length
  r8 : rs.length ≤ 10
theorem Good.fine {xs : List Str} {rs : List (List Str)} (g : Good xs rs) : FineN (rsd rs) 2 (64 * rs.length) := (fine_rows fun r hr => ⟨fun z hz => g.nm z ((g.pr r hr).mem_iff.mp hz), by rw [(g.pr r hr).length_eq]; exact g.l6⟩).list
theorem Good.row {xs : List Str} {rs : List (List Str)} (g : Good xs rs) {r : List Str} (hr : r ∈ rs) : FineN (rd r) 1 63 := fine_row (fun z hz => g.nm z ((g.pr r hr).mem_iff.mp hz)) (by rw [(g.pr r hr).length_eq]; exact g.l6)
def spTurned (C : Addr) : Sp := fun vs H Q _ => ∃ (a : Addr) (xs : List Str) (rs : List (List Str)), vs = [.ref a] ∧ PanF H C a xs rs ∧ Good xs rs ∧
  ∀ (PN : Addr) (H' : Hp), Same H H' → H PN = none → PanF H' C PN xs (rs.map List.reverse) → Q (.ref PN) H'
def spPlainP (C : Addr) : Sp := fun vs H Q _ => ∃ (a : Addr) (xs : List Str) (rs : List (List Str)), vs = [.ref a] ∧ PanF H C a xs rs ∧ Good xs rs ∧
  ∀ (PN : Addr) (H' : Hp), Same H H' → H PN = none → PanF H' C PN xs (plainRows rs) → Q (.ref PN) H'
def spEqRows (C : Addr) : Sp := fun vs H Q _ => ∃ (a : Addr) (xs : List Str) (rs : List (List Str)), vs = [.ref a] ∧ PanF H C a xs rs ∧ Good xs rs ∧
  ∀ (D : Addr) (gs : List Addr) (H' : Hp), Same H H' → H D = none → H' D = some (.lst (gs.map V.ref)) → NatsAt H' gs (eqRows rs) → (∀ g ∈ gs, H g = none ∧ g ≠ D) → Q (.ref D) H'
theorem firstsTo_lt {rs : List (List Str)} {n i : Nat} (h : i ∈ firstsTo rs n) : i < n := List.mem_range.mp (List.mem_filter.mp h).1
theorem plainRows_sub {rs : List (List Str)} {r : List Str} (h : r ∈ plainRows rs) : r ∈ rs := by
  obtain ⟨i, hi, rfl⟩ := List.mem_map.mp h
  have lt := firstsTo_lt hi
  have e : rs[i]? = some rs[i] := List.getElem?_eq_getElem lt
  rw [atR_of e]
  exact List.mem_of_getElem? e
theorem plainRows_len {rs : List (List Str)} : (plainRows rs).length ≤ rs.length := by
  unfold plainRows firstsTo
  rw [List.length_map]
  exact Nat.le_trans (List.length_filter_le _ _) (by rw [List.length_range]; exact Nat.le_refl _)
theorem plainRows_pos {rs : List (List Str)} (h : 1 ≤ rs.length) : 1 ≤ (plainRows rs).length := by
  have e : rs[0]? = some (rs[0]'(by omega)) := List.getElem?_eq_getElem _
  have m : 0 ∈ firstsTo rs rs.length := by
    refine List.mem_filter.mpr ⟨List.mem_range.mpr (by omega), decide_eq_true ?_⟩
    rw [atR_of e]
    cases rs with
    | nil => simp at h
    | cons r t => simp
  exact List.length_pos_of_mem (List.mem_map.mpr ⟨0, m, rfl⟩)
theorem Good.rev {xs : List Str} {rs : List (List Str)} (g : Good xs rs) : Good xs (rs.map List.reverse) := ⟨g.nm, g.nd, g.l1, g.l6, g.so, fun y hy => by
  obtain ⟨r, hr, rfl⟩ := List.mem_map.mp hy
  exact r.reverse_perm.trans (g.pr r hr), by rw [List.length_map]; exact g.r1, by rw [List.length_map]; exact g.r8⟩
theorem Good.plain {xs : List Str} {rs : List (List Str)} (g : Good xs rs) : Good xs (plainRows rs) := ⟨g.nm, g.nd, g.l1, g.l6, g.so, fun y hy => g.pr y (plainRows_sub hy), plainRows_pos g.r1, Nat.le_trans plainRows_len g.r8⟩
section
variable {P : Program} {w : World} {K : PySem.W.Frag} {mg : Str → Option Value} {base : Heap} {C : Addr}
abbrev sTurned : Stmt := top 38
theorem scTurned : FnScope ["panel", "row"] ["panel"] (defScope sTurned) := ⟨rfl, rfl, rfl, by decide +kernel, rfl, by decide +kernel, by decide +kernel⟩
theorem ok_turned {f fI : Addr} {fd fdI : FuncData} (F : FnP K "turned" sTurned f fd) (N : PanP P w K mg base C) (M : Mk K C fI) (gP : mg "Panel" = some (.ref C)) (FI : FnM K "__init__" "Panel.__init__" sInit fI fdI) (GI : FnOk P w K mg base (L2.CX P w) 4 fI fdI ["self", "entries", "rows"] (spInit K C))
    (DP : Df P w K mg base 1 "check_panel" sChkP ["panel"] (spChkP C)) : FnOk P w K mg base CX0 6 f fd ["panel"] (spTurned C) := by
  have bI : Binds K fdI ["self", "entries", "rows"] [] := FI.bindsN fun _ _ _ _ _ _ us hl => match us, hl with | [_, _, _], _ => rfl
  refine okN F scTurned (fun vs H Q E h => ?_) (fun cdv A outer s H vs Q E hr h => ?_)
  · obtain ⟨_, _, _, rfl, _⟩ := h
    rfl
  · obtain ⟨a, xs, rs, rfl, ⟨pan, fre, le⟩, gd, k⟩ := h
    obtain ⟨dx, gs, fr1, fr2, fr3, fr4⟩ := fre
    have r1 : Room 1 (A.deeper (envOfC "turned" (defScope sTurned) s.heap.objs.size f cdv)) := hr.mono (by decide)
    refine ⟨_, pss_cons (ps_expr (pe_df DP r1 (by rfl) (pa_cons (pv 0) pa_nil)))
      (pss_one (ps_ret (pe_makeS M GI hr (by rfl) gP bI (fun σ => passAt takes_none5 σ) (pa_cons (pe_mt (pv 0) N.cls N.en r1) (pa_cons
        (pe_lc (own := [("row", 1)]) (g := gName 1) (tt := tYes) (te := tRevL K (tVar 1)) rfl scTurned.nd (pi_list (pe_mt (pv 0) N.cls N.rw r1))
          (blkOk_by (N := ["panel", "row"]) (sc := defScope sTurned) (by decide +kernel)) (fun _ _ _ _ _ => pg_name (i := 1) scTurned.nd rfl (Or.inl rfl)) (fun _ _ _ _ _ => pts_nil) (fun _ _ _ _ _ => pe_revL (pv 1))) pa_nil))))), ?_⟩
    refine ⟨_, rfl, a, dx, gs, rfl, fr1, ?_⟩
    refine ⟨_, rfl, a, dx, gs, rfl, fr1, fr2, a, xs, rs, rfl, pan, fun D H1 s1 nD hD => ?_⟩
    refine ⟨_, rfl, a, dx, gs, rfl, s1 _ _ fr1, fr3, a, xs, rs, rfl, pan.same s1, le, fun D2 as H2 s2 nD2 hD2 has _ _ => ⟨D2, rfl, ⟨_, SqL.of hD2⟩, fun D4 hD4 => lc_list (K := K) (a := D2) (xs := as.map V.ref)
      (fun i H' => ∃ bs : List Addr, H' D4 = some (.lst (bs.map V.ref)) ∧ RowsAt H' bs ((rs.take i).map List.reverse) ∧ (∀ b ∈ bs, b ≠ D4) ∧ Same H2 H') ⟨[], upd_same, .nil, (fun b hb => nomatch hb), sn hD4⟩ (fun i H' _ h => by obtain ⟨_, _, _, _, h⟩ := h; exact SqL.of (h _ _ hD2)) ?_ ?_⟩⟩
    · rintro i y H' hi ⟨bs, q1, q2, q3, q4⟩
      rw [List.getElem?_map] at hi
      obtain ⟨c, hc, rfl⟩ := Option.map_eq_some_iff.mp hi
      obtain ⟨r, hr1, hr2⟩ := has.at hc
      refine ⟨rfl, _, rfl, c, _, rfl, SqL.of (q4 _ _ hr2), fun G nG => ?_⟩
      rw [← List.map_reverse]
      have s5 := sn nG (o := .lst (r.reverse.map V.str))
      have hG : upd H' G (.lst (r.reverse.map V.str)) G = some (.lst (r.reverse.map V.str)) := upd_same
      generalize upd H' G (.lst (r.reverse.map V.str)) = H5 at s5 hG ⊢
      have nGD : G ≠ D4 := Ne.symm (ne_of_none q1 nG)
      have tk2 : (rs.take (i + 1)).map List.reverse = (rs.take i).map List.reverse ++ [r.reverse] := by rw [List.take_succ, hr1, List.map_append]; rfl
      refine ⟨_, s5 _ _ q1, small1000 ?_, bs ++ [G], by rw [upd_same, List.map_append]; rfl, ?_, fun m hm => ?_, fun b o e => ?_⟩
      · rw [List.length_map, q2.len, List.length_map]
        have := List.length_take_le' i rs
        omega
      · rw [tk2]
        exact RowsAt.snoc ((q2.same s5).keep fun x hx o e => by rw [upd_ne (q3 x hx)]; exact e) (by rw [upd_ne nGD]; exact hG)
      · rcases List.mem_append.mp hm with h | h
        · exact q3 m h
        · rw [List.mem_singleton.mp h]
          exact nGD
      · rw [upd_ne (ne_of_none e hD4)]
        exact s5 _ _ (q4 _ _ e)
    · rintro H3 ⟨bs, q1, q2, q3, q4⟩
      rw [List.length_map, has.len, List.take_length] at q2
      have g2 := gd.rev
      have s13 := s2.trans q4
      refine make_ok (zs := xs) (xs := xs) (s13 _ _ hD) gd.nm gd.nd gd.l1 (by have := gd.l6; omega) (.refl _) gd.so q1 q2 g2.pr g2.r1 (by have := g2.r8; omega) fun PN H4 s4 nPN pan2 _ fre2 => ?_
      exact k PN H4 ((s1.trans s13).trans s4) ((s1.trans s13).free nPN) ⟨pan2, fre2.same new_sub, by rw [List.length_map]; exact le⟩
abbrev sPlainP : Stmt := top 40
abbrev nPlainP : List Str := ["panel", "rows", "at", "row"]
theorem scPlainP : FnScope nPlainP ["panel"] (defScope sPlainP) := ⟨rfl, rfl, rfl, by decide +kernel, rfl, by decide +kernel, by decide +kernel⟩
theorem ok_plainP {f fI : Addr} {fd fdI : FuncData} (F : FnP K "plain" sPlainP f fd) (LZ : LibZ mg) (N : PanP P w K mg base C) (M : Mk K C fI) (gP : mg "Panel" = some (.ref C)) (FI : FnM K "__init__" "Panel.__init__" sInit fI fdI) (GI : FnOk P w K mg base (L2.CX P w) 4 fI fdI ["self", "entries", "rows"] (spInit K C))
    (DP : Df P w K mg base 1 "check_panel" sChkP ["panel"] (spChkP C)) : FnOk P w K mg base CX0 6 f fd ["panel"] (spPlainP C) := by
  have bI : Binds K fdI ["self", "entries", "rows"] [] := FI.bindsN fun _ _ _ _ _ _ us hl => match us, hl with | [_, _, _], _ => rfl
  refine okN F scPlainP (fun vs H Q E h => ?_) (fun cdv A outer s H vs Q E hr h => ?_)
  · obtain ⟨_, _, _, rfl, _⟩ := h
    rfl
  · obtain ⟨a, xs, rs, rfl, ⟨pan, fre, le⟩, gd, k⟩ := h
    obtain ⟨dx, gs, fr1, fr2, fr3, fr4⟩ := fre
    have nd := scPlainP.nd
    have hun := hr.un
    have hu65 : (A.deeper (envOfC "plain" (defScope sPlainP) s.heap.objs.size f cdv)).units + 65 < cLine := by omega
    have r1 : Room 1 (A.deeper (envOfC "plain" (defScope sPlainP) s.heap.objs.size f cdv)) := hr.mono (by decide)
    refine ⟨_, pss_cons (ps_expr (pe_df DP r1 (by rfl) (pa_cons (pv 0) pa_nil)))
      (pss_cons (ps_set (i := 1) nd rfl (Or.inr rfl) (pe_mt (pv 0) N.cls N.rw r1))
      (pss_one (ps_ret (pe_makeS M GI hr (by rfl) gP bI (fun σ => passAt takes_none5 σ) (pa_cons (pe_mt (pv 0) N.cls N.en r1) (pa_cons
        (pe_lc (own := [("at", 2), ("row", 3)]) (g := gTup K 2 (gCons (gName 2) (gCons (gName 3) gNil))) (tt := tTest (tOp rEq (tBM K "list" (rIndexD K) (tVar 1) (tCons (tVar 3) tNil)) (tVar 2))) (te := tVar 3) rfl nd
          (pi_enum (by rfl) LZ.enum (pa_cons (pv 1) pa_nil)) (blkOk_by (N := nPlainP) (sc := defScope sPlainP) (by decide +kernel))
          (fun _ _ _ _ _ => pg_tup (n := 2) (by rfl) (pgs_cons (pg_name (i := 2) scPlainP.nd rfl (Or.inl rfl)) (pgs_cons (pg_name (i := 3) scPlainP.nd rfl (Or.inl rfl)) pgs_nil)))
          (fun _ _ _ _ _ => pts_one (pt_cmpR op_eq (pe_bm PySem.F.plainAttrs_list PySem.F.slot_list_index PySem.F.type_list_index (mt_indexD hu65) (pv 1) (pa_cons (pv 3) pa_nil)) (pv 2) (by rfl))) (fun _ _ _ _ _ => pv 3)) pa_nil)))))), ?_⟩
    refine ⟨_, rfl, a, dx, gs, rfl, fr1, ?_⟩
    refine ⟨_, rfl, a, dx, gs, rfl, fr1, fr3, a, xs, rs, rfl, pan, le, fun D2 as H1 s1 nD2 hD2 has _ ndas => ?_⟩
    refine ⟨_, rfl, a, dx, gs, rfl, s1 _ _ fr1, fr2, a, xs, rs, rfl, pan.same s1, fun D H2 s2 nD hD => ?_⟩
    have hD22 := s2 _ _ hD2
    have has2 := has.same s2
    have ff := gd.fine
    refine ⟨_, rfl, D2, as.map V.ref, rfl, SqL.of hD22, fun D4 hD4 => lc_enum (K := K) (a := D2) (xs := as.map V.ref) (fun i H' => ∃ bs : List Addr, H' D4 = some (.lst (bs.map V.ref)) ∧ RowsAt H2 bs ((firstsTo rs i).map (atR rs)) ∧ Same H2 H')
      ⟨[], upd_same, .nil, sn hD4⟩ (fun i H' h => by obtain ⟨_, _, _, h⟩ := h; exact SqL.of (h _ _ hD22)) ?_ ?_⟩
    · rintro i x T H' hx ⟨bs, q1, q2, q4⟩ nT
      rw [List.getElem?_map] at hx
      obtain ⟨c, hc, rfl⟩ := Option.map_eq_some_iff.mp hx
      obtain ⟨r, hr1, hr2⟩ := has2.at hc
      have st : Same H' (upd H' T (.tup [.int (i : Nat), .ref c])) := sn nT
      have s2T := q4.trans st
      have fr := gd.row (List.mem_of_getElem? hr1)
      obtain ⟨x1, x2, x3⟩ := idx_rows hr1
      have li : i < rs.length := (List.getElem?_eq_some_iff.mp hr1).1
      refine ⟨T, _, rfl, SqT.of upd_same, rfl, _, _, rfl, _, _, rfl, rfl, rfl, _, rfl, .inl ⟨rfl, _, SqL.of (s2T _ _ hD22)⟩, _, rfl, D2, .ref c, rd r, rs.map rd, rs.idxOf r, rd r, rfl, rfl, dp_rows (s2T _ _ hD22) (has2.same s2T), dp_row (s2T _ _ hr2), ff.shaped (by decide), fr.shaped (by decide), x1, x2, x3, _, rfl, rfl, decide (rs.idxOf r = i), ?_, ?_⟩
      · by_cases e : rs.idxOf r = i
        · rw [e, decide_eq_true rfl, decide_eq_true rfl]
        · rw [decide_eq_false e, decide_eq_false (fun q => e (by injection q with q; omega))]
      · have rg := range_filter (p := fun i => decide (rs.idxOf (atR rs i) = i)) (n := i)
        rw [atR_of hr1] at rg
        by_cases e : rs.idxOf r = i
        · rw [decide_eq_true e]
          rw [decide_eq_true e, if_pos rfl] at rg
          have lb := q2.len
          have lf : (firstsTo rs i).length ≤ i := Nat.le_trans (List.length_filter_le _ _) (by rw [List.length_range]; exact Nat.le_refl _)
          refine iteT ⟨_, rfl, _, st _ _ q1, small1000 (by rw [List.length_map, lb, List.length_map]; omega), bs ++ [c], by rw [upd_same, List.map_append]; rfl, ?_, fun b o eb => ?_⟩
          · show RowsAt H2 (bs ++ [c]) (((List.range (i + 1)).filter fun i => decide (rs.idxOf (atR rs i) = i)).map (atR rs))
            rw [rg, List.map_append]
            show RowsAt H2 (bs ++ [c]) (_ ++ [atR rs i])
            rw [atR_of hr1]
            exact q2.snoc hr2
          · rw [upd_ne (ne_of_none eb hD4)]
            exact st _ _ (q4 _ _ eb)
        · rw [decide_eq_false e]
          rw [decide_eq_false e, if_neg Bool.false_ne_true, List.append_nil] at rg
          refine iteF ⟨bs, st _ _ q1, ?_, q4.trans st⟩
          show RowsAt H2 bs (((List.range (i + 1)).filter fun i => decide (rs.idxOf (atR rs i) = i)).map (atR rs))
          rw [rg]
          exact q2
    · rintro H3 ⟨bs, q1, q2, q4⟩
      rw [List.length_map, has2.len] at q2
      have g2 := gd.plain
      refine make_ok (zs := xs) (xs := xs) (rs := plainRows rs) (q4 _ _ hD) gd.nm gd.nd gd.l1 (by have := gd.l6; omega) (.refl _) gd.so q1 (q2.same q4) g2.pr g2.r1 (by have := g2.r8; omega) fun PN H4 s4 nPN pan2 _ fre2 => ?_
      have sA := ((s1.trans s2).trans q4).trans s4
      exact k PN H4 sA (((s1.trans s2).trans q4).free nPN) ⟨pan2, fre2.same new_sub, by have := @plainRows_len rs; omega⟩
end
end K08

set_option maxHeartbeats 8000000
namespace K08
open PySem PySem.Spec PyProof.Rows L2 G1
def scEqIn : Scope := { kind := .function, names := [(Str.ofString ".0", .local), (Str.ofString "first", .cell), (Str.ofString "enumerate", .globalImplicit), (Str.ofString "rows", .cell)], isGenerator := false, isCoroutine := false }
section
variable {P : Program} {w : World} {K : PySem.W.Frag} {mg : Str → Option Value} {base : Heap} {C : Addr}
abbrev sEqR : Stmt := top 39
abbrev nEqR : List Str := ["panel", "rows", "firsts", "at", "row", "first"]
theorem scEqR : FnScope nEqR ["panel"] (defScope sEqR) := ⟨rfl, rfl, rfl, by decide +kernel, rfl, by decide +kernel, by decide +kernel⟩
theorem ok_eqRows {f : Addr} {fd : FuncData} (F : FnP K "equal_rows" sEqR f fd) (LZ : LibZ mg) (N : PanP P w K mg base C) (DP : Df P w K mg base 1 "check_panel" sChkP ["panel"] (spChkP C)) : FnOk P w K mg base CX0 2 f fd ["panel"] (spEqRows C) := by
  refine okN F scEqR (fun vs H Q E h => ?_) (fun cdv A outer s H vs Q E hr h => ?_)
  · obtain ⟨_, _, _, rfl, _⟩ := h
    rfl
  · obtain ⟨a, xs, rs, rfl, ⟨pan, fre, le⟩, gd, k⟩ := h
    obtain ⟨dx, gs, fr1, fr2, fr3, fr4⟩ := fre
    have nd := scEqR.nd
    have hun := hr.un
    have hu65 : (A.deeper (envOfC "equal_rows" (defScope sEqR) s.heap.objs.size f cdv)).units + 65 < cLine := by omega
    have hu1 : (A.deeper (envOfC "equal_rows" (defScope sEqR) s.heap.objs.size f cdv)).units + (0 + 1) < cLine := by omega
    refine ⟨_, pss_cons (ps_expr (pe_df DP hr (by rfl) (pa_cons (pv 0) pa_nil)))
      (pss_cons (ps_set (i := 1) nd rfl (Or.inr rfl) (pe_mt (pv 0) N.cls N.rw hr))
      (pss_cons (ps_setLc (i := 2) (own := [("at", 3), ("row", 4)]) (g := gTup K 2 (gCons (gName 3) (gCons (gName 4) gNil))) (tt := tTest (tOp rEq (tBM K "list" (rIndexD K) (tVar 1) (tCons (tVar 4) tNil)) (tVar 3))) (te := tVar 3) (by rfl) nd rfl rfl (sw_true rfl rfl rfl (by decide +kernel))
          (pi_enum (by rfl) LZ.enum (pa_cons (pv 1) pa_nil)) (blkOk_by (N := nEqR) (sc := defScope sEqR) (by decide +kernel))
          (fun _ _ _ _ _ => pg_tup (n := 2) (by rfl) (pgs_cons (pg_name (i := 3) scEqR.nd rfl (Or.inl rfl)) (pgs_cons (pg_name (i := 4) scEqR.nd rfl (Or.inl rfl)) pgs_nil)))
          (fun _ _ _ _ _ => pts_one (pt_cmpR op_eq (pe_bm PySem.F.plainAttrs_list PySem.F.slot_list_index PySem.F.type_list_index (mt_indexD hu65) (pv 1) (pa_cons (pv 4) pa_nil)) (pv 3) (by rfl))) (fun _ _ _ _ _ => pv 3))
      (pss_one (ps_ret (pe_lc (own := [("first", 5)]) (g := gName 5) (tt := tYes) (te := tLc (iEnum K (tCons (tVar 1) tNil)) (gTup K 2 (gCons (gName 3) (gCons (gName 4) gNil))) (tTest (tOp (rEqW K 0) (tVar 4) (tOp (rIxL K) (tVar 1) (tVar 5)))) (tVar 3) [3, 4]) rfl nd (pi_list (pv 2))
          (blkOk_by (N := nEqR) (sc := defScope sEqR) (by decide +kernel)) (fun _ _ _ _ _ => pg_name (i := 5) scEqR.nd rfl (Or.inr rfl)) (fun _ _ _ _ _ => pts_nil)
          (fun _ _ _ _ _ => pe_lc (own := [("at", 3), ("row", 4)]) (g := gTup K 2 (gCons (gName 3) (gCons (gName 4) gNil))) (tt := tTest (tOp (rEqW K 0) (tVar 4) (tOp (rIxL K) (tVar 1) (tVar 5)))) (te := tVar 3) (by rfl) scEqR.nd
            (pi_enum (by rfl) LZ.enum (pa_cons (pv 1) pa_nil)) (blkOk_by (N := nEqR) (sc := scEqIn) (by decide +kernel))
            (fun _ _ _ _ _ => pg_tup (n := 2) (by rfl) (pgs_cons (pg_name (i := 3) scEqR.nd rfl (Or.inl rfl)) (pgs_cons (pg_name (i := 4) scEqR.nd rfl (Or.inl rfl)) pgs_nil)))
            (fun _ _ _ _ _ => pts_one (pt_cmpR (op_eqW (n := 0) hu1) (pv 4) (pe_ix ix_list (pv 1) (pv 5) (fun _ _ => rfl)) (by rfl))) (fun _ _ _ _ _ => pv 3))))))), ?_⟩
    refine ⟨_, rfl, a, dx, gs, rfl, fr1, ?_⟩
    refine ⟨_, rfl, a, dx, gs, rfl, fr1, fr3, a, xs, rs, rfl, pan, le, fun D2 as H2 s2 nD2 hD22 has2 _ ndas => ?_⟩
    have ff := gd.fine
    refine ⟨_, rfl, D2, as.map V.ref, rfl, SqL.of hD22, fun D4 hD4 => lc_enum (K := K) (a := D2) (xs := as.map V.ref) (fun i H' => H' D4 = some (.lst (natsV (firstsTo rs i))) ∧ Same H2 H')
      ⟨upd_same, sn hD4⟩ (fun i H' h => SqL.of (h.2 _ _ hD22)) ?_ ?_⟩
    · rintro i x T H' hx ⟨q1, q4⟩ nT
      rw [List.getElem?_map] at hx
      obtain ⟨c, hc, rfl⟩ := Option.map_eq_some_iff.mp hx
      obtain ⟨r, hr1, hr2⟩ := has2.at hc
      have st : Same H' (upd H' T (.tup [.int (i : Nat), .ref c])) := sn nT
      have s2T := q4.trans st
      have fr := gd.row (List.mem_of_getElem? hr1)
      obtain ⟨x1, x2, x3⟩ := idx_rows hr1
      have li : i < rs.length := (List.getElem?_eq_some_iff.mp hr1).1
      refine ⟨T, _, rfl, SqT.of upd_same, rfl, _, _, rfl, _, _, rfl, rfl, rfl, _, rfl, .inl ⟨rfl, _, SqL.of (s2T _ _ hD22)⟩, _, rfl, D2, .ref c, rd r, rs.map rd, rs.idxOf r, rd r, rfl, rfl, dp_rows (s2T _ _ hD22) (has2.same s2T), dp_row (s2T _ _ hr2), ff.shaped (by decide), fr.shaped (by decide), x1, x2, x3, _, rfl, rfl, decide (rs.idxOf r = i), ?_, ?_⟩
      · by_cases e : rs.idxOf r = i
        · rw [e, decide_eq_true rfl, decide_eq_true rfl]
        · rw [decide_eq_false e, decide_eq_false (fun q => e (by injection q with q; omega))]
      · have rg : firstsTo rs (i + 1) = firstsTo rs i ++ (if decide (rs.idxOf (atR rs i) = i) = true then [i] else []) := range_filter (p := fun i => decide (rs.idxOf (atR rs i) = i)) (n := i)
        rw [atR_of hr1] at rg
        have lf : (firstsTo rs i).length ≤ i := Nat.le_trans (List.length_filter_le _ _) (by rw [List.length_range]; exact Nat.le_refl _)
        by_cases e : rs.idxOf r = i
        · rw [decide_eq_true e]
          rw [decide_eq_true e, if_pos rfl] at rg
          refine iteT ⟨_, rfl, _, st _ _ q1, small1000 (by unfold natsV; rw [List.length_map]; omega), ?_, fun b o eb => ?_⟩
          · rw [upd_same, rg]
            unfold natsV
            rw [List.map_append]
            rfl
          · rw [upd_ne (ne_of_none eb hD4)]
            exact st _ _ (q4 _ _ eb)
        · rw [decide_eq_false e]
          rw [decide_eq_false e, if_neg Bool.false_ne_true, List.append_nil] at rg
          exact iteF ⟨by rw [rg]; exact st _ _ q1, q4.trans st⟩
    rintro H3 ⟨q1, q2⟩
    rw [List.length_map, has2.len] at q1
    have hD23 := q2 _ _ hD22
    have has3 := has2.same q2
    have z3 := s2.trans q2
    clear hD22 has2 s2 q2 hD4 nD2
    refine ⟨_, rfl, D4, rfl, ⟨_, SqL.of q1⟩, fun D5 hD5 => lc_list (K := K) (a := D4) (xs := natsV (firstsTo rs rs.length)) (fun i H' => ∃ bs : List Addr, H' D5 = some (.lst (bs.map V.ref)) ∧ NatsAt H' bs (((firstsTo rs rs.length).take i).map fun j => grpTo rs rs.length (atR rs j)) ∧ (∀ b ∈ bs, H3 b = none ∧ b ≠ D5) ∧ Same H3 H')
      ⟨[], upd_same, .nil, (fun b hb => nomatch hb), sn hD5⟩ (fun i H' _ h => by obtain ⟨_, _, _, _, h⟩ := h; exact SqL.of (h _ _ q1)) ?_ ?_⟩
    · rintro i y H' hi ⟨bs, w1, w2, w3, w4⟩
      unfold natsV at hi
      rw [List.getElem?_map] at hi
      obtain ⟨m, hm, rfl⟩ := Option.map_eq_some_iff.mp hi
      have lm := firstsTo_lt (List.mem_of_getElem? hm)
      obtain ⟨rm, hrm⟩ : ∃ rm, rs[m]? = some rm := ⟨_, List.getElem?_eq_getElem lm⟩
      obtain ⟨cm, hcm, hcm2⟩ := has3.adr hrm
      refine ⟨rfl, _, rfl, D2, as.map V.ref, rfl, SqL.of (w4 _ _ hD23), fun D6 hD6 => lc_enum (K := K) (a := D2) (xs := as.map V.ref) (fun j H'' => H'' D6 = some (.lst (natsV (grpTo rs j rm))) ∧ Same H' H'')
        ⟨upd_same, sn hD6⟩ (fun j H'' h => SqL.of (h.2 _ _ (w4 _ _ hD23))) ?_ ?_⟩
      · rintro j x T H'' hx ⟨v1, v2⟩ nT
        rw [List.getElem?_map] at hx
        obtain ⟨c, hc, rfl⟩ := Option.map_eq_some_iff.mp hx
        obtain ⟨r, hr1, hr2⟩ := has3.at hc
        have st : Same H'' (upd H'' T (.tup [.int (j : Nat), .ref c])) := sn nT
        have s3T := (w4.trans v2).trans st
        have lj : j < rs.length := (List.getElem?_eq_some_iff.mp hr1).1
        refine ⟨T, _, rfl, SqT.of upd_same, rfl, _, _, rfl, _, _, rfl, rfl, rfl, _, rfl, _, rfl, _, rfl, D2, as.map V.ref, (m : Int), .ref cm, rfl, rfl, SqL.of (s3T _ _ hD23), atI_nat (by rw [List.getElem?_map, hcm]; rfl), decide (r = rm), lists_strs (SqL.of (s3T _ _ hr2)) (SqL.of (s3T _ _ hcm2)), _, rfl, ?_⟩
        have rg : grpTo rs (j + 1) rm = grpTo rs j rm ++ (if decide (atR rs j = rm) = true then [j] else []) := range_filter (p := fun j => decide (atR rs j = rm)) (n := j)
        rw [atR_of hr1] at rg
        have lf : (grpTo rs j rm).length ≤ j := Nat.le_trans (List.length_filter_le _ _) (by rw [List.length_range]; exact Nat.le_refl _)
        by_cases e : r = rm
        · rw [decide_eq_true e]
          rw [decide_eq_true e, if_pos rfl] at rg
          refine iteT ⟨_, rfl, _, st _ _ v1, small1000 (by unfold natsV; rw [List.length_map]; omega), ?_, fun b o eb => ?_⟩
          · rw [upd_same, rg]
            unfold natsV
            rw [List.map_append]
            rfl
          · rw [upd_ne (ne_of_none eb hD6)]
            exact st _ _ (v2 _ _ eb)
        · rw [decide_eq_false e]
          rw [decide_eq_false e, if_neg Bool.false_ne_true, List.append_nil] at rg
          exact iteF ⟨by rw [rg]; exact st _ _ v1, v2.trans st⟩
      · rintro H'' ⟨v1, v2⟩
        rw [List.length_map, has3.len] at v1
        have n65 : D6 ≠ D5 := Ne.symm (ne_of_none w1 hD6)
        have tk2 : ((firstsTo rs rs.length).take (i + 1)).map (fun j => grpTo rs rs.length (atR rs j)) = ((firstsTo rs rs.length).take i).map (fun j => grpTo rs rs.length (atR rs j)) ++ [grpTo rs rs.length rm] := by
          rw [List.take_succ, hm, List.map_append]
          show _ ++ [grpTo rs rs.length (atR rs m)] = _
          rw [atR_of hrm]
        have lb := w2.len
        have lf : (firstsTo rs rs.length).length ≤ rs.length := Nat.le_trans (List.length_filter_le _ _) (by rw [List.length_range]; exact Nat.le_refl _)
        refine ⟨_, v2 _ _ w1, small1000 ?_, bs ++ [D6], by rw [upd_same, List.map_append]; rfl, ?_, fun b hb => ?_, fun b o e => ?_⟩
        · rw [List.length_map, lb, List.length_map]
          have := List.length_take_le' i (firstsTo rs rs.length)
          omega
        · rw [tk2]
          exact NatsAt.snoc ((w2.same v2).keep fun x hx o e => by rw [upd_ne (w3 x hx).2]; exact e) (by rw [upd_ne n65]; exact v1)
        · rcases List.mem_append.mp hb with h | h
          · exact w3 b h
          · rw [List.mem_singleton.mp h]
            exact ⟨w4.free hD6, n65⟩
        · rw [upd_ne (ne_of_none e hD5)]
          exact v2 _ _ (w4 _ _ e)
    · rintro H4 ⟨bs, w1, w2, w3, w4⟩
      have e : (natsV (firstsTo rs rs.length)).length = (firstsTo rs rs.length).length := by unfold natsV; rw [List.length_map]
      rw [e, List.take_length] at w2
      exact k D5 bs H4 (z3.trans w4) (z3.free hD5) w1 w2 fun g hg => ⟨z3.free (w3 g hg).1, (w3 g hg).2⟩
end
end K08

set_option maxHeartbeats 8000000
namespace K08
open PySem PySem.Spec PyProof.Rows L2 G1
/-- a def that raises, where it stands, what it promises -/
structure DfX (P : Program) (w : World) (K : PySem.W.Frag) (mg : Str → Option Value) (base : Heap) (k : Nat) (x : Str) (st : Stmt) (ps : List Str) (sp : Sp) : Prop where
  ex : ∃ (f : Addr) (fd : FuncData), FnP K x st f fd ∧ mg x = some (.ref f) ∧ FnOk P w K mg base (L2.CX P w) k f fd ps sp ∧ Binds K fd ps []
theorem pe_dfX {X : Cx} {k : Nat} {x : Str} {st : Stmt} {ps : List Str} {sp : Sp} {e : Expr} {es : List Expr} {t : TA} {p pos : Pos} {W : WX} (D : DfX X.prog X.w X.K X.mg X.base k x st ps sp) (hr : Room k X.A) (hg : Gl X x) (tk : Takes X W) (ha : PA X (e :: es) t)
    (hdb : (x == ("__debug__" : Str)) = false := by decide) (he : starEach (e :: es) X.env = (false, eval e X.env) :: starEach es X.env := by rfl) (hpl : (backTo pos (starEach es X.env)).any (·.1) = false := by rfl) :
    PE X (.Call (.Name x p) (e :: es) [] pos) (tCallS sp (WE W) t) := by
  obtain ⟨f, fd, F, g, G, b⟩ := D.ex
  exact pe_callS G hr hg g F.kp b (fun σ => passAt tk σ) ha hdb he hpl
def spOneX (K : PySem.W.Frag) (C : Addr) : Sp := fun vs H Q E => ∃ v, vs = [v] ∧ OddP K C H v ∧ Rz K "InvalidPanel" v H E
def spCardsX (K : PySem.W.Frag) (C : Addr) : Sp := fun vs H Q E => ∃ u v, vs = [u, v] ∧ ((OddP K C H u ∧ Rz K "InvalidPanel" u H E) ∨ ∃ (a : Addr) (xs : List Str) (rs : List (List Str)), u = .ref a ∧ PanF H C a xs rs ∧ OddF K H xs v ∧ Rz K "InvalidField" v H E)
def spPlacesX (K : PySem.W.Frag) (C : Addr) : Sp := fun vs H Q E => ∃ u v, vs = [u, v] ∧ ((OddP K C H u ∧ Rz K "InvalidPanel" u H E) ∨ ∃ (a : Addr) (xs : List Str) (rs : List (List Str)), u = .ref a ∧ PanF H C a xs rs ∧ OddN K H xs v ∧ Rz K "UnknownEntry" v H E)
def spNamedX (K : PySem.W.Frag) (C : Addr) : Sp := fun vs H Q E => ∃ u v z, vs = [u, v, z] ∧ ((OddP K C H u ∧ Rz K "InvalidPanel" u H E) ∨ ∃ (a : Addr) (xs : List Str) (rs : List (List Str)), u = .ref a ∧ PanF H C a xs rs ∧ ((OddC K H rs.length v ∧ Rz K "InvalidCount" v H E) ∨
  ∃ i : Nat, v = .int (i : Int) ∧ i < rs.length ∧ OddF K H xs z ∧ Rz K "InvalidField" z H E))
def spWhoX (K : PySem.W.Frag) (C : Addr) : Sp := fun vs H Q E => ∃ u v z, vs = [u, v, z] ∧ ((OddP K C H u ∧ Rz K "InvalidPanel" u H E) ∨ ∃ (a : Addr) (xs : List Str) (rs : List (List Str)), u = .ref a ∧ PanF H C a xs rs ∧ ((OddF K H xs v ∧ Rz K "InvalidField" v H E) ∨
  ∃ (f : Addr) (fs : List Str), v = .ref f ∧ FieldAt H f xs fs ∧ OddN K H xs z ∧ Rz K "UnknownEntry" z H E))
def spAheadX (K : PySem.W.Frag) (C : Addr) : Sp := fun vs H Q E => ∃ u v z, vs = [u, v, z] ∧ ((OddP K C H u ∧ Rz K "InvalidPanel" u H E) ∨ ∃ (a : Addr) (xs : List Str) (rs : List (List Str)), u = .ref a ∧ PanF H C a xs rs ∧ ((OddC K H rs.length v ∧ Rz K "InvalidCount" v H E) ∨
  ∃ i : Nat, v = .int (i : Int) ∧ i < rs.length ∧ OddN K H xs z ∧ Rz K "UnknownEntry" z H E))
section
variable {P : Program} {w : World} {K : PySem.W.Frag} {mg : Str → Option Value} {base : Heap} {C : Addr}
theorem ok_turnedX {f : Addr} {fd : FuncData} (F : FnP K "turned" sTurned f fd) (DP : DfX P w K mg base 3 "check_panel" sChkP ["panel"] (spChkPX K C)) : FnOk P w K mg base (L2.CX P w) 5 f fd ["panel"] (spOneX K C) := by
  refine F.ok scTurned (fun vs H Q E h => ?_) (fun cdv A outer s H vs Q E hr h => ?_)
  · obtain ⟨_, rfl, _⟩ := h
    rfl
  · obtain ⟨v, rfl, h, k⟩ := h
    refine ⟨_, pss_cons (ps_expr (pe_dfX (W := fun cls d _ H' => E cls d H') DP (hr.mono (by decide)) (by rfl) (takes_of rfl rfl rfl rfl) (pa_cons (pv 0) pa_nil))) pss_never, ?_⟩
    exact ⟨_, rfl, v, rfl, h, k⟩
theorem ok_eqRowsX {f : Addr} {fd : FuncData} (F : FnP K "equal_rows" sEqR f fd) (DP : DfX P w K mg base 3 "check_panel" sChkP ["panel"] (spChkPX K C)) : FnOk P w K mg base (L2.CX P w) 5 f fd ["panel"] (spOneX K C) := by
  refine F.ok scEqR (fun vs H Q E h => ?_) (fun cdv A outer s H vs Q E hr h => ?_)
  · obtain ⟨_, rfl, _⟩ := h
    rfl
  · obtain ⟨v, rfl, h, k⟩ := h
    refine ⟨_, pss_cons (ps_expr (pe_dfX (W := fun cls d _ H' => E cls d H') DP (hr.mono (by decide)) (by rfl) (takes_of rfl rfl rfl rfl) (pa_cons (pv 0) pa_nil))) pss_never, ?_⟩
    exact ⟨_, rfl, v, rfl, h, k⟩
theorem ok_plainX {f : Addr} {fd : FuncData} (F : FnP K "plain" sPlainP f fd) (DP : DfX P w K mg base 3 "check_panel" sChkP ["panel"] (spChkPX K C)) : FnOk P w K mg base (L2.CX P w) 5 f fd ["panel"] (spOneX K C) := by
  refine F.ok scPlainP (fun vs H Q E h => ?_) (fun cdv A outer s H vs Q E hr h => ?_)
  · obtain ⟨_, rfl, _⟩ := h
    rfl
  · obtain ⟨v, rfl, h, k⟩ := h
    refine ⟨_, pss_cons (ps_expr (pe_dfX (W := fun cls d _ H' => E cls d H') DP (hr.mono (by decide)) (by rfl) (takes_of rfl rfl rfl rfl) (pa_cons (pv 0) pa_nil))) pss_never, ?_⟩
    exact ⟨_, rfl, v, rfl, h, k⟩
theorem ok_cardsX {f : Addr} {fd : FuncData} (F : FnP K "cards" sCards f fd) (N : PanP P w K mg base C) (DP : Df P w K mg base 1 "check_panel" sChkP ["panel"] (spChkP C)) (PX : DfX P w K mg base 3 "check_panel" sChkP ["panel"] (spChkPX K C)) (FX : DfX P w K mg base 4 "check_field" sChkF ["entries", "field"] (spChkFX K)) :
    FnOk P w K mg base (L2.CX P w) 5 f fd ["panel", "field"] (spCardsX K C) := by
  refine F.ok scCards (fun vs H Q E h => ?_) (fun cdv A outer s H vs Q E hr h => ?_)
  · obtain ⟨_, _, rfl, _⟩ := h
    rfl
  · obtain ⟨u, v, rfl, h⟩ := h
    have r1 : Room 1 (A.deeper (envOfC "cards" (defScope sCards) s.heap.objs.size f cdv)) := hr.mono (by decide)
    rcases h with ⟨h, k⟩ | ⟨a, xs, rs, rfl, pan, h, k⟩
    · refine ⟨_, pss_cons (ps_expr (pe_dfX (W := fun cls d _ H' => E cls d H') PX (hr.mono (by decide)) (by rfl) (takes_of rfl rfl rfl rfl) (pa_cons (pv 0) pa_nil))) pss_never, ?_⟩
      exact ⟨_, rfl, u, rfl, h, k⟩
    · obtain ⟨dx, gs, fr1, fr2, fr3, fr4⟩ := id pan.fre
      refine ⟨_, pss_cons (ps_expr (pe_df DP r1 (by rfl) (pa_cons (pv 0) pa_nil)))
        (pss_cons (ps_expr (pe_dfX (W := fun cls d _ H' => E cls d H') FX hr (by rfl) (takes_of rfl rfl rfl rfl) (pa_cons (pe_mt (pv 0) N.cls N.en r1) (pa_cons (pv 1) pa_nil)))) pss_never), ?_⟩
      refine ⟨_, rfl, a, dx, gs, rfl, fr1, ?_⟩
      exact ⟨_, rfl, a, dx, gs, rfl, fr1, fr2, a, xs, rs, rfl, pan.at_, fun D H1 s1 nD hD => ⟨_, rfl, D, xs, v, rfl, SqL.of hD, h.same s1, k.same s1⟩⟩
theorem ok_placesX {f : Addr} {fd : FuncData} (F : FnP K "places" sPlaces f fd) (N : PanP P w K mg base C) (DP : Df P w K mg base 1 "check_panel" sChkP ["panel"] (spChkP C)) (PX : DfX P w K mg base 3 "check_panel" sChkP ["panel"] (spChkPX K C)) (NX : DfX P w K mg base 3 "check_entry" sChkN ["entries", "entry"] (spChkNX K)) :
    FnOk P w K mg base (L2.CX P w) 5 f fd ["panel", "entry"] (spPlacesX K C) := by
  refine F.ok scPlaces (fun vs H Q E h => ?_) (fun cdv A outer s H vs Q E hr h => ?_)
  · obtain ⟨_, _, rfl, _⟩ := h
    rfl
  · obtain ⟨u, v, rfl, h⟩ := h
    have r1 : Room 1 (A.deeper (envOfC "places" (defScope sPlaces) s.heap.objs.size f cdv)) := hr.mono (by decide)
    rcases h with ⟨h, k⟩ | ⟨a, xs, rs, rfl, pan, h, k⟩
    · refine ⟨_, pss_cons (ps_expr (pe_dfX (W := fun cls d _ H' => E cls d H') PX (hr.mono (by decide)) (by rfl) (takes_of rfl rfl rfl rfl) (pa_cons (pv 0) pa_nil))) pss_never, ?_⟩
      exact ⟨_, rfl, u, rfl, h, k⟩
    · obtain ⟨dx, gs, fr1, fr2, fr3, fr4⟩ := id pan.fre
      refine ⟨_, pss_cons (ps_expr (pe_df DP r1 (by rfl) (pa_cons (pv 0) pa_nil)))
        (pss_cons (ps_expr (pe_dfX (W := fun cls d _ H' => E cls d H') NX (hr.mono (by decide)) (by rfl) (takes_of rfl rfl rfl rfl) (pa_cons (pe_mt (pv 0) N.cls N.en r1) (pa_cons (pv 1) pa_nil)))) pss_never), ?_⟩
      refine ⟨_, rfl, a, dx, gs, rfl, fr1, ?_⟩
      exact ⟨_, rfl, a, dx, gs, rfl, fr1, fr2, a, xs, rs, rfl, pan.at_, fun D H1 s1 nD hD => ⟨_, rfl, D, xs, v, rfl, SqL.of hD, h.same s1, k.same s1⟩⟩
theorem ok_namedX {f : Addr} {fd : FuncData} (F : FnP K "named" sNamed f fd) (L : Lib K mg) (N : PanP P w K mg base C) (DP : Df P w K mg base 1 "check_panel" sChkP ["panel"] (spChkP C)) (DA : Df P w K mg base 2 "check_position" sChkAt ["many", "at"] spChkAt)
    (PX : DfX P w K mg base 3 "check_panel" sChkP ["panel"] (spChkPX K C)) (AX : DfX P w K mg base 3 "check_position" sChkAt ["many", "at"] (spChkAtX K)) (FX : DfX P w K mg base 4 "check_field" sChkF ["entries", "field"] (spChkFX K)) :
    FnOk P w K mg base (L2.CX P w) 5 f fd ["panel", "at", "field"] (spNamedX K C) := by
  refine F.ok scNamed (fun vs H Q E h => ?_) (fun cdv A outer s H vs Q E hr h => ?_)
  · obtain ⟨_, _, _, rfl, _⟩ := h
    rfl
  · obtain ⟨u, v, z, rfl, h⟩ := h
    have r1 : Room 1 (A.deeper (envOfC "named" (defScope sNamed) s.heap.objs.size f cdv)) := hr.mono (by decide)
    have r2 : Room 2 (A.deeper (envOfC "named" (defScope sNamed) s.heap.objs.size f cdv)) := hr.mono (by decide)
    have r3 : Room 3 (A.deeper (envOfC "named" (defScope sNamed) s.heap.objs.size f cdv)) := hr.mono (by decide)
    rcases h with ⟨h, k⟩ | ⟨a, xs, rs, rfl, pan, h⟩
    · refine ⟨_, pss_cons (ps_expr (pe_dfX (W := fun cls d _ H' => E cls d H') PX r3 (by rfl) (takes_of rfl rfl rfl rfl) (pa_cons (pv 0) pa_nil))) pss_never, ?_⟩
      exact ⟨_, rfl, u, rfl, h, k⟩
    · obtain ⟨dx, gs, fr1, fr2, fr3, fr4⟩ := id pan.fre
      have le := pan.le
      rcases h with ⟨h, k⟩ | ⟨i, rfl, hi, h, k⟩
      · refine ⟨_, pss_cons (ps_expr (pe_df DP r1 (by rfl) (pa_cons (pv 0) pa_nil)))
          (pss_cons (ps_expr (pe_dfX (W := fun cls d _ H' => E cls d H') AX r3 (by rfl) (takes_of rfl rfl rfl rfl) (pa_cons (pe_callB (call_lenP N r2) (by rfl) L.len PySem.boot_len (pa_cons (pv 0) pa_nil)) (pa_cons (pv 1) pa_nil)))) pss_never), ?_⟩
        refine ⟨_, rfl, a, dx, gs, rfl, fr1, ?_⟩
        exact ⟨_, rfl, a, dx, gs, (rs.length : Int), rfl, fr1, by omega, by omega, a, xs, rs, rfl, pan.at_, rfl, _, rfl, rs.length, v, rfl, h, k⟩
      · refine ⟨_, pss_cons (ps_expr (pe_df DP r1 (by rfl) (pa_cons (pv 0) pa_nil)))
          (pss_cons (ps_expr (pe_df DA r2 (by rfl) (pa_cons (pe_callB (call_lenP N r2) (by rfl) L.len PySem.boot_len (pa_cons (pv 0) pa_nil)) (pa_cons (pv 1) pa_nil))))
          (pss_cons (ps_expr (pe_dfX (W := fun cls d _ H' => E cls d H') FX hr (by rfl) (takes_of rfl rfl rfl rfl) (pa_cons (pe_mt (pv 0) N.cls N.en r1) (pa_cons (pv 2) pa_nil)))) pss_never)), ?_⟩
        refine ⟨_, rfl, a, dx, gs, rfl, fr1, ?_⟩
        refine ⟨_, rfl, a, dx, gs, (rs.length : Int), rfl, fr1, by omega, by omega, a, xs, rs, rfl, pan.at_, rfl, _, rfl, (rs.length : Int), (i : Int), rfl, by omega, by omega, ?_⟩
        exact ⟨_, rfl, a, dx, gs, rfl, fr1, fr2, a, xs, rs, rfl, pan.at_, fun D H1 s1 nD hD => ⟨_, rfl, D, xs, z, rfl, SqL.of hD, h.same s1, k.same s1⟩⟩
theorem ok_whoX {f : Addr} {fd : FuncData} (F : FnP K "who" sWho f fd) (N : PanP P w K mg base C) (DP : Df P w K mg base 1 "check_panel" sChkP ["panel"] (spChkP C)) (DF : Df P w K mg base 4 "check_field" sChkF ["entries", "field"] (spChkF K))
    (PX : DfX P w K mg base 3 "check_panel" sChkP ["panel"] (spChkPX K C)) (NX : DfX P w K mg base 3 "check_entry" sChkN ["entries", "entry"] (spChkNX K)) (FX : DfX P w K mg base 4 "check_field" sChkF ["entries", "field"] (spChkFX K)) :
    FnOk P w K mg base (L2.CX P w) 5 f fd ["panel", "field", "entry"] (spWhoX K C) := by
  refine F.ok scWho (fun vs H Q E h => ?_) (fun cdv A outer s H vs Q E hr h => ?_)
  · obtain ⟨_, _, _, rfl, _⟩ := h
    rfl
  · obtain ⟨u, v, z, rfl, h⟩ := h
    have r1 : Room 1 (A.deeper (envOfC "who" (defScope sWho) s.heap.objs.size f cdv)) := hr.mono (by decide)
    have r3 : Room 3 (A.deeper (envOfC "who" (defScope sWho) s.heap.objs.size f cdv)) := hr.mono (by decide)
    rcases h with ⟨h, k⟩ | ⟨a, xs, rs, rfl, pan, h⟩
    · refine ⟨_, pss_cons (ps_expr (pe_dfX (W := fun cls d _ H' => E cls d H') PX r3 (by rfl) (takes_of rfl rfl rfl rfl) (pa_cons (pv 0) pa_nil))) pss_never, ?_⟩
      exact ⟨_, rfl, u, rfl, h, k⟩
    · obtain ⟨dx, gs, fr1, fr2, fr3, fr4⟩ := id pan.fre
      rcases h with ⟨h, k⟩ | ⟨f2, fs, rfl, hf, h, k⟩
      · refine ⟨_, pss_cons (ps_expr (pe_df DP r1 (by rfl) (pa_cons (pv 0) pa_nil)))
          (pss_cons (ps_expr (pe_dfX (W := fun cls d _ H' => E cls d H') FX hr (by rfl) (takes_of rfl rfl rfl rfl) (pa_cons (pe_mt (pv 0) N.cls N.en r1) (pa_cons (pv 1) pa_nil)))) pss_never), ?_⟩
        refine ⟨_, rfl, a, dx, gs, rfl, fr1, ?_⟩
        exact ⟨_, rfl, a, dx, gs, rfl, fr1, fr2, a, xs, rs, rfl, pan.at_, fun D H1 s1 nD hD => ⟨_, rfl, D, xs, v, rfl, SqL.of hD, h.same s1, k.same s1⟩⟩
      · refine ⟨_, pss_cons (ps_expr (pe_df DP r1 (by rfl) (pa_cons (pv 0) pa_nil)))
          (pss_cons (ps_expr (pe_df DF hr (by rfl) (pa_cons (pe_mt (pv 0) N.cls N.en r1) (pa_cons (pv 1) pa_nil))))
          (pss_cons (ps_expr (pe_dfX (W := fun cls d _ H' => E cls d H') NX r3 (by rfl) (takes_of rfl rfl rfl rfl) (pa_cons (pe_mt (pv 0) N.cls N.en r1) (pa_cons (pv 2) pa_nil)))) pss_never)), ?_⟩
        refine ⟨_, rfl, a, dx, gs, rfl, fr1, ?_⟩
        refine ⟨_, rfl, a, dx, gs, rfl, fr1, fr2, a, xs, rs, rfl, pan.at_, fun D H1 s1 nD hD => ⟨_, rfl, D, f2, xs, fs, rfl, SqL.of hD, s1 _ _ hf.at_, hf.le, hf.lot, hf.pos, fun H2 s2 => ?_⟩⟩
        have s12 := s1.trans s2
        exact ⟨_, rfl, a, dx, gs, rfl, s12 _ _ fr1, fr2, a, xs, rs, rfl, pan.at_.same s12, fun D2 H3 s3 nD2 hD2 => ⟨_, rfl, D2, xs, z, rfl, SqL.of hD2, h.same (s12.trans s3), k.same (s12.trans s3)⟩⟩
theorem ok_aheadX {f : Addr} {fd : FuncData} (F : FnP K "ahead" sAhead f fd) (L : Lib K mg) (N : PanP P w K mg base C) (DP : Df P w K mg base 1 "check_panel" sChkP ["panel"] (spChkP C)) (DA : Df P w K mg base 2 "check_position" sChkAt ["many", "at"] spChkAt)
    (PX : DfX P w K mg base 3 "check_panel" sChkP ["panel"] (spChkPX K C)) (AX : DfX P w K mg base 3 "check_position" sChkAt ["many", "at"] (spChkAtX K)) (NX : DfX P w K mg base 3 "check_entry" sChkN ["entries", "entry"] (spChkNX K)) :
    FnOk P w K mg base (L2.CX P w) 5 f fd ["panel", "at", "entry"] (spAheadX K C) := by
  refine F.ok scAhead (fun vs H Q E h => ?_) (fun cdv A outer s H vs Q E hr h => ?_)
  · obtain ⟨_, _, _, rfl, _⟩ := h
    rfl
  · obtain ⟨u, v, z, rfl, h⟩ := h
    have r1 : Room 1 (A.deeper (envOfC "ahead" (defScope sAhead) s.heap.objs.size f cdv)) := hr.mono (by decide)
    have r2 : Room 2 (A.deeper (envOfC "ahead" (defScope sAhead) s.heap.objs.size f cdv)) := hr.mono (by decide)
    have r3 : Room 3 (A.deeper (envOfC "ahead" (defScope sAhead) s.heap.objs.size f cdv)) := hr.mono (by decide)
    rcases h with ⟨h, k⟩ | ⟨a, xs, rs, rfl, pan, h⟩
    · refine ⟨_, pss_cons (ps_expr (pe_dfX (W := fun cls d _ H' => E cls d H') PX r3 (by rfl) (takes_of rfl rfl rfl rfl) (pa_cons (pv 0) pa_nil))) pss_never, ?_⟩
      exact ⟨_, rfl, u, rfl, h, k⟩
    · obtain ⟨dx, gs, fr1, fr2, fr3, fr4⟩ := id pan.fre
      have le := pan.le
      rcases h with ⟨h, k⟩ | ⟨i, rfl, hi, h, k⟩
      · refine ⟨_, pss_cons (ps_expr (pe_df DP r1 (by rfl) (pa_cons (pv 0) pa_nil)))
          (pss_cons (ps_expr (pe_dfX (W := fun cls d _ H' => E cls d H') AX r3 (by rfl) (takes_of rfl rfl rfl rfl) (pa_cons (pe_callB (call_lenP N r2) (by rfl) L.len PySem.boot_len (pa_cons (pv 0) pa_nil)) (pa_cons (pv 1) pa_nil)))) pss_never), ?_⟩
        refine ⟨_, rfl, a, dx, gs, rfl, fr1, ?_⟩
        exact ⟨_, rfl, a, dx, gs, (rs.length : Int), rfl, fr1, by omega, by omega, a, xs, rs, rfl, pan.at_, rfl, _, rfl, rs.length, v, rfl, h, k⟩
      · refine ⟨_, pss_cons (ps_expr (pe_df DP r1 (by rfl) (pa_cons (pv 0) pa_nil)))
          (pss_cons (ps_expr (pe_df DA r2 (by rfl) (pa_cons (pe_callB (call_lenP N r2) (by rfl) L.len PySem.boot_len (pa_cons (pv 0) pa_nil)) (pa_cons (pv 1) pa_nil))))
          (pss_cons (ps_expr (pe_dfX (W := fun cls d _ H' => E cls d H') NX r3 (by rfl) (takes_of rfl rfl rfl rfl) (pa_cons (pe_mt (pv 0) N.cls N.en r1) (pa_cons (pv 2) pa_nil)))) pss_never)), ?_⟩
        refine ⟨_, rfl, a, dx, gs, rfl, fr1, ?_⟩
        refine ⟨_, rfl, a, dx, gs, (rs.length : Int), rfl, fr1, by omega, by omega, a, xs, rs, rfl, pan.at_, rfl, _, rfl, (rs.length : Int), (i : Int), rfl, by omega, by omega, ?_⟩
        exact ⟨_, rfl, a, dx, gs, rfl, fr1, fr2, a, xs, rs, rfl, pan.at_, fun D H1 s1 nD hD => ⟨_, rfl, D, xs, z, rfl, SqL.of hD, h.same s1, k.same s1⟩⟩
end
end K08

set_option maxHeartbeats 16000000
namespace K08
open PySem PySem.Spec PyProof.Rows L2 G1
/-! ### the eight doors, what they are given -/
inductive Wd
  | pan
  | cnt
  | fld
  | ent
deriving DecidableEq
def Wd.str : Wd → Str
  | .pan => "panel"
  | .cnt => "count"
  | .fld => "field"
  | .ent => "entry"
def Wd.err : Wd → Str
  | .pan => "InvalidPanel"
  | .cnt => "InvalidCount"
  | .fld => "InvalidField"
  | .ent => "UnknownEntry"
def dW : Nat → List Wd
  | 0 => [.pan]
  | 1 => [.pan]
  | 2 => [.pan]
  | 3 => [.pan, .fld]
  | 4 => [.pan, .ent]
  | 5 => [.pan, .cnt, .fld]
  | 6 => [.pan, .fld, .ent]
  | _ => [.pan, .cnt, .ent]
/-- what is right for each word -/
def gw (a f : Addr) (i : Nat) (z : Str) : Wd → V
  | .pan => .ref a
  | .cnt => .int (i : Int)
  | .fld => .ref f
  | .ent => .str z
structure GA (H : Hp) (C a f : Addr) (i : Nat) (z : Str) (xs fs : List Str) (rs : List (List Str)) : Prop where
  pan : PanF H C a xs rs
  gd : Good xs rs
  fld : FieldAt H f xs fs
  zx : z ∈ xs
  ir : i < rs.length
theorem GA.same {H H' : Hp} {C a f : Addr} {i : Nat} {z : Str} {xs fs : List Str} {rs : List (List Str)} (h : GA H C a f i z xs fs rs) (s : Same H H') : GA H' C a f i z xs fs rs := ⟨h.pan.same s, h.gd, h.fld.same s, h.zx, h.ir⟩
def OddW (K : PySem.W.Frag) (C : Addr) (H : Hp) (xs : List Str) (many : Nat) : Wd → V → Prop
  | .pan, v => OddP K C H v
  | .cnt, v => OddC K H many v
  | .fld, v => OddF K H xs v
  | .ent, v => OddN K H xs v
theorem OddW.same {K : PySem.W.Frag} {C : Addr} {H H' : Hp} {xs : List Str} {many : Nat} : ∀ {w : Wd} {v : V}, OddW K C H xs many w v → Same H H' → OddW K C H' xs many w v
  | .pan, _, h, s => OddP.same h s
  | .cnt, _, h, s => OddC.same h s
  | .fld, _, h, s => OddF.same h s
  | .ent, _, h, s => OddN.same h s
/-- the first thing that is not right is at the place p -/
def BadA (K : PySem.W.Frag) (C a f : Addr) (i : Nat) (z : Str) (xs : List Str) (rs : List (List Str)) (H : Hp) (E : XK) (d : Nat) (gs : List V) (w : Wd) (v : V) : Prop := ∃ (p : Nat) (rest : List V), (dW d)[p]? = some w ∧ gs = ((dW d).map (gw a f i z)).take p ++ v :: rest ∧ rest.length + p + 1 = (dW d).length ∧ OddW K C H xs rs.length w v ∧ Rz K w.err v H E
theorem BadA.same {K : PySem.W.Frag} {C a f : Addr} {i : Nat} {z : Str} {xs : List Str} {rs : List (List Str)} {H H' : Hp} {E : XK} {d : Nat} {gs : List V} {w : Wd} {v : V} (h : BadA K C a f i z xs rs H E d gs w v) (s : Same H H') : BadA K C a f i z xs rs H' E d gs w v := by
  obtain ⟨p, rest, h1, h2, h3, h4, h5⟩ := h
  exact ⟨p, rest, h1, h2, h3, h4.same s, h5.same s⟩
section
variable {K : PySem.W.Frag} {C a f : Addr} {i : Nat} {z : Str} {xs fs : List Str} {rs : List (List Str)} {H : Hp} {Q : VK} {E : XK} {gs : List V} {w : Wd} {v : V}
theorem len0 {rest : List V} (h : rest.length = 0) : rest = [] := List.length_eq_zero_iff.mp h
theorem len1 {rest : List V} (h : rest.length = 1) : ∃ x, rest = [x] := by
  match rest, h with
  | [x], _ => exact ⟨x, rfl⟩
theorem len2 {rest : List V} (h : rest.length = 2) : ∃ x y, rest = [x, y] := by
  match rest, h with
  | [x, y], _ => exact ⟨x, y, rfl⟩
theorem bad1 {d : Nat} (hd : dW d = [.pan]) (h : BadA K C a f i z xs rs H E d gs w v) : spOneX K C gs H Q E := by
  obtain ⟨p, rest, h1, rfl, h3, h4, h5⟩ := h
  rw [hd] at h1 h3 ⊢
  match p, h1 with
  | 0, h1 =>
    cases h1
    rw [len0 (rest := rest) (by simpa using h3)]
    exact ⟨v, rfl, h4, h5⟩

theorem bad3 (ga : GA H C a f i z xs fs rs) (h : BadA K C a f i z xs rs H E 3 gs w v) : spCardsX K C gs H Q E := by
  obtain ⟨p, rest, h1, rfl, h3, h4, h5⟩ := h
  have hd : dW 3 = [.pan, .fld] := rfl
  rw [hd] at h1 h3 ⊢
  match p, h1 with
  | 0, h1 =>
    cases h1
    obtain ⟨y0, rfl⟩ := len1 (rest := rest) (by simp at h3; omega)
    exact ⟨v, _, rfl, .inl ⟨h4, h5⟩⟩
  | 1, h1 =>
    cases h1
    rw [len0 (rest := rest) (by simpa using h3)]
    exact ⟨_, v, rfl, .inr ⟨a, xs, rs, rfl, ga.pan, h4, h5⟩⟩
theorem bad4 (ga : GA H C a f i z xs fs rs) (h : BadA K C a f i z xs rs H E 4 gs w v) : spPlacesX K C gs H Q E := by
  obtain ⟨p, rest, h1, rfl, h3, h4, h5⟩ := h
  have hd : dW 4 = [.pan, .ent] := rfl
  rw [hd] at h1 h3 ⊢
  match p, h1 with
  | 0, h1 =>
    cases h1
    obtain ⟨y0, rfl⟩ := len1 (rest := rest) (by simp at h3; omega)
    exact ⟨v, _, rfl, .inl ⟨h4, h5⟩⟩
  | 1, h1 =>
    cases h1
    rw [len0 (rest := rest) (by simpa using h3)]
    exact ⟨_, v, rfl, .inr ⟨a, xs, rs, rfl, ga.pan, h4, h5⟩⟩
theorem bad5 (ga : GA H C a f i z xs fs rs) (h : BadA K C a f i z xs rs H E 5 gs w v) : spNamedX K C gs H Q E := by
  obtain ⟨p, rest, h1, rfl, h3, h4, h5⟩ := h
  have hd : dW 5 = [.pan, .cnt, .fld] := rfl
  rw [hd] at h1 h3 ⊢
  match p, h1 with
  | 0, h1 =>
    cases h1
    obtain ⟨y0, y1, rfl⟩ := len2 (rest := rest) (by simp at h3; omega)
    exact ⟨v, _, _, rfl, .inl ⟨h4, h5⟩⟩
  | 1, h1 =>
    cases h1
    obtain ⟨y0, rfl⟩ := len1 (rest := rest) (by simp at h3; omega)
    exact ⟨_, v, _, rfl, .inr ⟨a, xs, rs, rfl, ga.pan, .inl ⟨h4, h5⟩⟩⟩
  | 2, h1 =>
    cases h1
    rw [len0 (rest := rest) (by simpa using h3)]
    exact ⟨_, _, v, rfl, .inr ⟨a, xs, rs, rfl, ga.pan, .inr ⟨i, rfl, ga.ir, h4, h5⟩⟩⟩
theorem bad6 (ga : GA H C a f i z xs fs rs) (h : BadA K C a f i z xs rs H E 6 gs w v) : spWhoX K C gs H Q E := by
  obtain ⟨p, rest, h1, rfl, h3, h4, h5⟩ := h
  have hd : dW 6 = [.pan, .fld, .ent] := rfl
  rw [hd] at h1 h3 ⊢
  match p, h1 with
  | 0, h1 =>
    cases h1
    obtain ⟨y0, y1, rfl⟩ := len2 (rest := rest) (by simp at h3; omega)
    exact ⟨v, _, _, rfl, .inl ⟨h4, h5⟩⟩
  | 1, h1 =>
    cases h1
    obtain ⟨y0, rfl⟩ := len1 (rest := rest) (by simp at h3; omega)
    exact ⟨_, v, _, rfl, .inr ⟨a, xs, rs, rfl, ga.pan, .inl ⟨h4, h5⟩⟩⟩
  | 2, h1 =>
    cases h1
    rw [len0 (rest := rest) (by simpa using h3)]
    exact ⟨_, _, v, rfl, .inr ⟨a, xs, rs, rfl, ga.pan, .inr ⟨f, fs, rfl, ga.fld, h4, h5⟩⟩⟩
theorem bad7 (ga : GA H C a f i z xs fs rs) (h : BadA K C a f i z xs rs H E 7 gs w v) : spAheadX K C gs H Q E := by
  obtain ⟨p, rest, h1, rfl, h3, h4, h5⟩ := h
  have hd : dW 7 = [.pan, .cnt, .ent] := rfl
  rw [hd] at h1 h3 ⊢
  match p, h1 with
  | 0, h1 =>
    cases h1
    obtain ⟨y0, y1, rfl⟩ := len2 (rest := rest) (by simp at h3; omega)
    exact ⟨v, _, _, rfl, .inl ⟨h4, h5⟩⟩
  | 1, h1 =>
    cases h1
    obtain ⟨y0, rfl⟩ := len1 (rest := rest) (by simp at h3; omega)
    exact ⟨_, v, _, rfl, .inr ⟨a, xs, rs, rfl, ga.pan, .inl ⟨h4, h5⟩⟩⟩
  | 2, h1 =>
    cases h1
    rw [len0 (rest := rest) (by simpa using h3)]
    exact ⟨_, _, v, rfl, .inr ⟨a, xs, rs, rfl, ga.pan, .inr ⟨i, rfl, ga.ir, h4, h5⟩⟩⟩
variable (ga : GA H C a f i z xs fs rs) (k : ∀ v H', Same H H' → Q v H')
include ga k
theorem good0 : spTurned C [.ref a] H Q E := ⟨a, xs, rs, rfl, ga.pan, ga.gd, fun PN H' s _ _ => k _ H' s⟩
theorem good1 : spEqRows C [.ref a] H Q E := ⟨a, xs, rs, rfl, ga.pan, ga.gd, fun D gs H' s _ _ _ _ => k _ H' s⟩
theorem good2 : spPlainP C [.ref a] H Q E := ⟨a, xs, rs, rfl, ga.pan, ga.gd, fun PN H' s _ _ => k _ H' s⟩
theorem good3 : spCards C [.ref a, .ref f] H Q E := ⟨a, f, xs, fs, rs, rfl, ga.pan, ga.fld, ga.gd.pr, fun ys D H' s _ _ _ _ _ _ => k _ H' s⟩
theorem good4 : spPlaces C [.ref a, .str z] H Q E := ⟨a, xs, rs, z, rfl, ga.pan, fun r hr => (ga.gd.pr r hr).mem_iff.mpr ga.zx, ga.zx, fun D H' s _ _ => k _ H' s⟩
theorem good5 : spNamed C [.ref a, .int (i : Int), .ref f] H Q E := by
  have ir := ga.ir
  have e : rs[i]? = some rs[i] := List.getElem?_eq_getElem ir
  obtain ⟨y, hy⟩ := ga.fld.fst (ga.gd.pr _ (List.mem_of_getElem? e))
  exact ⟨a, f, i, xs, fs, rs, _, y, rfl, ga.pan, ga.fld, e, hy, fun H' s => k _ H' s⟩
theorem good6 : spWho C [.ref a, .ref f, .str z] H Q E := ⟨a, f, xs, fs, rs, z, rfl, ga.pan, ga.fld, ga.gd.pr, ga.zx, fun D H' s _ _ => k _ H' s⟩
theorem good7 : spAhead C [.ref a, .int (i : Int), .str z] H Q E := by
  have ir := ga.ir
  have e : rs[i]? = some rs[i] := List.getElem?_eq_getElem ir
  have m := List.mem_of_getElem? e
  exact ⟨a, i, xs, rs, _, z, rfl, ga.pan, e, (by have := (ga.gd.pr _ m).length_eq; have := ga.gd.l6; omega), ga.zx, (ga.gd.pr _ m).mem_iff.mpr ga.zx, fun ys D H' s _ _ _ _ => k _ H' s⟩
end
def spAsked (K : PySem.W.Frag) (C : Addr) : Sp := fun vs H Q E => ∃ (d : Nat) (G : Addr) (gs : List V) (a f : Addr) (i : Nat) (z : Str) (xs fs : List Str) (rs : List (List Str)), vs = [.int (d : Int), .ref G] ∧ d < 8 ∧ H G = some (.lst gs) ∧ GA H C a f i z xs fs rs ∧
  ((∃ w v, BadA K C a f i z xs rs H E d gs w v) ∨ (gs = (dW d).map (gw a f i z) ∧ ∀ v H', Same H H' → Q v H'))
theorem bad_len {K : PySem.W.Frag} {C a f : Addr} {i : Nat} {z : Str} {xs : List Str} {rs : List (List Str)} {H : Hp} {E : XK} {d : Nat} {gs : List V} {w : Wd} {v : V} (h : BadA K C a f i z xs rs H E d gs w v) : gs.length = (dW d).length := by
  obtain ⟨p, rest, h1, rfl, h3, h4, h5⟩ := h
  have := (List.getElem?_eq_some_iff.mp h1).1
  rw [List.length_append, List.length_take, List.length_map, List.length_cons]
  omega
section
variable {P : Program} {w : World} {K : PySem.W.Frag} {mg : Str → Option Value} {base : Heap} {C : Addr}
abbrev sAsked : Stmt := top 42
abbrev nAsked : List Str := ["_law_door", "_law_given"]
theorem scAsked : FnScope nAsked ["_law_door", "_law_given"] (defScope sAsked) := ⟨rfl, rfl, rfl, by decide +kernel, rfl, by decide +kernel, by decide +kernel⟩
theorem ok_asked {f : Addr} {fd : FuncData} (F : FnP K "_law_asked" sAsked f fd) (D0 : Df P w K mg base 6 "turned" sTurned ["panel"] (spTurned C)) (X0 : DfX P w K mg base 5 "turned" sTurned ["panel"] (spOneX K C)) (D1 : Df P w K mg base 2 "equal_rows" sEqR ["panel"] (spEqRows C)) (X1 : DfX P w K mg base 5 "equal_rows" sEqR ["panel"] (spOneX K C)) (D2 : Df P w K mg base 6 "plain" sPlainP ["panel"] (spPlainP C)) (X2 : DfX P w K mg base 5 "plain" sPlainP ["panel"] (spOneX K C)) (D3 : Df P w K mg base 5 "cards" sCards ["panel", "field"] (spCards C)) (X3 : DfX P w K mg base 5 "cards" sCards ["panel", "field"] (spCardsX K C)) (D4 : Df P w K mg base 2 "places" sPlaces ["panel", "entry"] (spPlaces C)) (X4 : DfX P w K mg base 5 "places" sPlaces ["panel", "entry"] (spPlacesX K C)) (D5 : Df P w K mg base 5 "named" sNamed ["panel", "at", "field"] (spNamed C)) (X5 : DfX P w K mg base 5 "named" sNamed ["panel", "at", "field"] (spNamedX K C)) (D6 : Df P w K mg base 5 "who" sWho ["panel", "field", "entry"] (spWho C)) (X6 : DfX P w K mg base 5 "who" sWho ["panel", "field", "entry"] (spWhoX K C)) (D7 : Df P w K mg base 3 "ahead" sAhead ["panel", "at", "entry"] (spAhead C)) (X7 : DfX P w K mg base 5 "ahead" sAhead ["panel", "at", "entry"] (spAheadX K C)) : FnOk P w K mg base (L2.CX P w) 7 f fd ["_law_door", "_law_given"] (spAsked K C) := by
  refine F.ok scAsked (fun vs H Q E h => ?_) (fun cdv A outer s H vs Q E hr h => ?_)
  · obtain ⟨_, _, _, _, _, _, _, _, _, _, rfl, _⟩ := h
    rfl
  · obtain ⟨d, G, gs, a, fa, i, z, xs, fs, rs, rfl, hd, hG, ga, h⟩ := h
    have tk : Takes (cxOf (L2.CX P w) P w K mg base nAsked "_law_asked" (defScope sAsked) f cdv A outer s H E) (fun cls d _ H' => E cls d H') := takes_of rfl rfl rfl rfl
    have r2 : Room 2 (A.deeper (envOfC "_law_asked" (defScope sAsked) s.heap.objs.size f cdv)) := hr.mono (by decide)
    have r3 : Room 3 (A.deeper (envOfC "_law_asked" (defScope sAsked) s.heap.objs.size f cdv)) := hr.mono (by decide)
    have r5 : Room 5 (A.deeper (envOfC "_law_asked" (defScope sAsked) s.heap.objs.size f cdv)) := hr.mono (by decide)
    have r6 : Room 6 (A.deeper (envOfC "_law_asked" (defScope sAsked) s.heap.objs.size f cdv)) := hr.mono (by decide)
    obtain ⟨f0, fd0, F0, g0, G0, b0⟩ := D0.ex
    obtain ⟨h0, hd0, F0x, g0x, G0x, b0x⟩ := X0.ex
    obtain ⟨f1, fd1, F1, g1, G1, b1⟩ := D1.ex
    obtain ⟨h1, hd1, F1x, g1x, G1x, b1x⟩ := X1.ex
    obtain ⟨f2, fd2, F2, g2, G2, b2⟩ := D2.ex
    obtain ⟨h2, hd2, F2x, g2x, G2x, b2x⟩ := X2.ex
    obtain ⟨f3, fd3, F3, g3, G3, b3⟩ := D3.ex
    obtain ⟨h3, hd3, F3x, g3x, G3x, b3x⟩ := X3.ex
    obtain ⟨f4, fd4, F4, g4, G4, b4⟩ := D4.ex
    obtain ⟨h4, hd4, F4x, g4x, G4x, b4x⟩ := X4.ex
    obtain ⟨f5, fd5, F5, g5, G5, b5⟩ := D5.ex
    obtain ⟨h5, hd5, F5x, g5x, G5x, b5x⟩ := X5.ex
    obtain ⟨f6, fd6, F6, g6, G6, b6⟩ := D6.ex
    obtain ⟨h6, hd6, F6x, g6x, G6x, b6x⟩ := X6.ex
    obtain ⟨f7, fd7, F7, g7, G7, b7⟩ := D7.ex
    obtain ⟨h7, hd7, F7x, g7x, G7x, b7x⟩ := X7.ex
    match d, hd with
    | 0, _ =>
      rcases h with ⟨wd, v, h⟩ | ⟨rfl, k⟩
      · obtain ⟨v0, rfl⟩ : ∃ v0, gs = [v0] := by
          have q : gs.length = 1 := bad_len h
          match gs, q with
          | [v0], _ => exact ⟨v0, rfl⟩
        refine ⟨_, pss_cons (ps_if (pt_cmpR op_lt (pv 0) pe_int (nomark _)) (pss_one (ps_ret (pe_callX (f := h0) (E := WE fun cls d _ H' => E cls d H') (G0x) r5 F0x.kp b0x (fun σ => passAt tk σ) (pe_ix ix_list (pe_lst (pa_cons (pe_glob (v := .ref h0) (by rfl) g0x rfl) (pa_cons (pe_glob (v := .ref h1) (by rfl) g1x rfl) (pa_cons (pe_glob (v := .ref h2) (by rfl) g2x rfl) pa_nil)))) (pv 0) (fun _ _ => rfl)) (pa_cons (pe_ix ix_list (pv 1) pe_int (fun _ _ => rfl)) pa_nil)))) pss_nil) pss_never, ?_⟩
        refine ⟨_, rfl, _, _, rfl, rfl, _, rfl, ite2 (fun _ => ?_) fun q => absurd (by decide) q⟩
        refine ⟨(show 3 ≤ sizeLine by decide), fun l nl => ?_⟩
        have sl := sn nl (o := .lst [.ref h0, .ref h1, .ref h2])
        refine ⟨_, rfl, l, _, _, .ref h0, rfl, rfl, SqL.of upd_same, (show atI _ ((0 : Nat) : Int) = _ from atI_nat rfl), rfl, ?_⟩
        refine ⟨_, rfl, G, _, _, _, rfl, rfl, SqL.of (sl _ _ hG), (show atI _ ((0 : Nat) : Int) = _ from atI_nat rfl), ?_⟩
        exact bad1 (Q := fun _ _ => True) rfl (h.same sl)
      · refine ⟨_, pss_cons (ps_if (pt_cmpR op_lt (pv 0) pe_int (nomark _)) (pss_one (ps_ret (pe_callX (f := f0) (E := fun _ => E0) (G0) r6 F0.kp b0 (fun _ _ _ _ _ _ _ c => c.elim) (pe_ix ix_list (pe_lst (pa_cons (pe_glob (v := .ref f0) (by rfl) g0 rfl) (pa_cons (pe_glob (v := .ref f1) (by rfl) g1 rfl) (pa_cons (pe_glob (v := .ref f2) (by rfl) g2 rfl) pa_nil)))) (pv 0) (fun _ _ => rfl)) (pa_cons (pe_ix ix_list (pv 1) pe_int (fun _ _ => rfl)) pa_nil)))) pss_nil) pss_never, ?_⟩
        refine ⟨_, rfl, _, _, rfl, rfl, _, rfl, ite2 (fun _ => ?_) fun q => absurd (by decide) q⟩
        refine ⟨(show 3 ≤ sizeLine by decide), fun l nl => ?_⟩
        have sl := sn nl (o := .lst [.ref f0, .ref f1, .ref f2])
        refine ⟨_, rfl, l, _, _, .ref f0, rfl, rfl, SqL.of upd_same, (show atI _ ((0 : Nat) : Int) = _ from atI_nat rfl), rfl, ?_⟩
        refine ⟨_, rfl, G, _, _, _, rfl, rfl, SqL.of (sl _ _ hG), (show atI _ ((0 : Nat) : Int) = _ from atI_nat rfl), ?_⟩
        exact good0 (E := E0) (ga.same sl) fun v H' s => k v H' (sl.trans s)
    | 1, _ =>
      rcases h with ⟨wd, v, h⟩ | ⟨rfl, k⟩
      · obtain ⟨v0, rfl⟩ : ∃ v0, gs = [v0] := by
          have q : gs.length = 1 := bad_len h
          match gs, q with
          | [v0], _ => exact ⟨v0, rfl⟩
        refine ⟨_, pss_cons (ps_if (pt_cmpR op_lt (pv 0) pe_int (nomark _)) (pss_one (ps_ret (pe_callX (f := h1) (E := WE fun cls d _ H' => E cls d H') (G1x) r5 F1x.kp b1x (fun σ => passAt tk σ) (pe_ix ix_list (pe_lst (pa_cons (pe_glob (v := .ref h0) (by rfl) g0x rfl) (pa_cons (pe_glob (v := .ref h1) (by rfl) g1x rfl) (pa_cons (pe_glob (v := .ref h2) (by rfl) g2x rfl) pa_nil)))) (pv 0) (fun _ _ => rfl)) (pa_cons (pe_ix ix_list (pv 1) pe_int (fun _ _ => rfl)) pa_nil)))) pss_nil) pss_never, ?_⟩
        refine ⟨_, rfl, _, _, rfl, rfl, _, rfl, ite2 (fun _ => ?_) fun q => absurd (by decide) q⟩
        refine ⟨(show 3 ≤ sizeLine by decide), fun l nl => ?_⟩
        have sl := sn nl (o := .lst [.ref h0, .ref h1, .ref h2])
        refine ⟨_, rfl, l, _, _, .ref h1, rfl, rfl, SqL.of upd_same, (show atI _ ((1 : Nat) : Int) = _ from atI_nat rfl), rfl, ?_⟩
        refine ⟨_, rfl, G, _, _, _, rfl, rfl, SqL.of (sl _ _ hG), (show atI _ ((0 : Nat) : Int) = _ from atI_nat rfl), ?_⟩
        exact bad1 (Q := fun _ _ => True) rfl (h.same sl)
      · refine ⟨_, pss_cons (ps_if (pt_cmpR op_lt (pv 0) pe_int (nomark _)) (pss_one (ps_ret (pe_callX (f := f1) (E := fun _ => E0) (G1) r2 F1.kp b1 (fun _ _ _ _ _ _ _ c => c.elim) (pe_ix ix_list (pe_lst (pa_cons (pe_glob (v := .ref f0) (by rfl) g0 rfl) (pa_cons (pe_glob (v := .ref f1) (by rfl) g1 rfl) (pa_cons (pe_glob (v := .ref f2) (by rfl) g2 rfl) pa_nil)))) (pv 0) (fun _ _ => rfl)) (pa_cons (pe_ix ix_list (pv 1) pe_int (fun _ _ => rfl)) pa_nil)))) pss_nil) pss_never, ?_⟩
        refine ⟨_, rfl, _, _, rfl, rfl, _, rfl, ite2 (fun _ => ?_) fun q => absurd (by decide) q⟩
        refine ⟨(show 3 ≤ sizeLine by decide), fun l nl => ?_⟩
        have sl := sn nl (o := .lst [.ref f0, .ref f1, .ref f2])
        refine ⟨_, rfl, l, _, _, .ref f1, rfl, rfl, SqL.of upd_same, (show atI _ ((1 : Nat) : Int) = _ from atI_nat rfl), rfl, ?_⟩
        refine ⟨_, rfl, G, _, _, _, rfl, rfl, SqL.of (sl _ _ hG), (show atI _ ((0 : Nat) : Int) = _ from atI_nat rfl), ?_⟩
        exact good1 (E := E0) (ga.same sl) fun v H' s => k v H' (sl.trans s)
    | 2, _ =>
      rcases h with ⟨wd, v, h⟩ | ⟨rfl, k⟩
      · obtain ⟨v0, rfl⟩ : ∃ v0, gs = [v0] := by
          have q : gs.length = 1 := bad_len h
          match gs, q with
          | [v0], _ => exact ⟨v0, rfl⟩
        refine ⟨_, pss_cons (ps_if (pt_cmpR op_lt (pv 0) pe_int (nomark _)) (pss_one (ps_ret (pe_callX (f := h2) (E := WE fun cls d _ H' => E cls d H') (G2x) r5 F2x.kp b2x (fun σ => passAt tk σ) (pe_ix ix_list (pe_lst (pa_cons (pe_glob (v := .ref h0) (by rfl) g0x rfl) (pa_cons (pe_glob (v := .ref h1) (by rfl) g1x rfl) (pa_cons (pe_glob (v := .ref h2) (by rfl) g2x rfl) pa_nil)))) (pv 0) (fun _ _ => rfl)) (pa_cons (pe_ix ix_list (pv 1) pe_int (fun _ _ => rfl)) pa_nil)))) pss_nil) pss_never, ?_⟩
        refine ⟨_, rfl, _, _, rfl, rfl, _, rfl, ite2 (fun _ => ?_) fun q => absurd (by decide) q⟩
        refine ⟨(show 3 ≤ sizeLine by decide), fun l nl => ?_⟩
        have sl := sn nl (o := .lst [.ref h0, .ref h1, .ref h2])
        refine ⟨_, rfl, l, _, _, .ref h2, rfl, rfl, SqL.of upd_same, (show atI _ ((2 : Nat) : Int) = _ from atI_nat rfl), rfl, ?_⟩
        refine ⟨_, rfl, G, _, _, _, rfl, rfl, SqL.of (sl _ _ hG), (show atI _ ((0 : Nat) : Int) = _ from atI_nat rfl), ?_⟩
        exact bad1 (Q := fun _ _ => True) rfl (h.same sl)
      · refine ⟨_, pss_cons (ps_if (pt_cmpR op_lt (pv 0) pe_int (nomark _)) (pss_one (ps_ret (pe_callX (f := f2) (E := fun _ => E0) (G2) r6 F2.kp b2 (fun _ _ _ _ _ _ _ c => c.elim) (pe_ix ix_list (pe_lst (pa_cons (pe_glob (v := .ref f0) (by rfl) g0 rfl) (pa_cons (pe_glob (v := .ref f1) (by rfl) g1 rfl) (pa_cons (pe_glob (v := .ref f2) (by rfl) g2 rfl) pa_nil)))) (pv 0) (fun _ _ => rfl)) (pa_cons (pe_ix ix_list (pv 1) pe_int (fun _ _ => rfl)) pa_nil)))) pss_nil) pss_never, ?_⟩
        refine ⟨_, rfl, _, _, rfl, rfl, _, rfl, ite2 (fun _ => ?_) fun q => absurd (by decide) q⟩
        refine ⟨(show 3 ≤ sizeLine by decide), fun l nl => ?_⟩
        have sl := sn nl (o := .lst [.ref f0, .ref f1, .ref f2])
        refine ⟨_, rfl, l, _, _, .ref f2, rfl, rfl, SqL.of upd_same, (show atI _ ((2 : Nat) : Int) = _ from atI_nat rfl), rfl, ?_⟩
        refine ⟨_, rfl, G, _, _, _, rfl, rfl, SqL.of (sl _ _ hG), (show atI _ ((0 : Nat) : Int) = _ from atI_nat rfl), ?_⟩
        exact good2 (E := E0) (ga.same sl) fun v H' s => k v H' (sl.trans s)
    | 3, _ =>
      rcases h with ⟨wd, v, h⟩ | ⟨rfl, k⟩
      · obtain ⟨v0, v1, rfl⟩ : ∃ v0 v1, gs = [v0, v1] := by
          have q : gs.length = 2 := bad_len h
          match gs, q with
          | [v0, v1], _ => exact ⟨v0, v1, rfl⟩
        refine ⟨_, pss_cons (ps_if (pt_cmpR op_lt (pv 0) pe_int (nomark _)) (pss_one ps_never) pss_nil) (pss_cons (ps_if (pt_cmpR op_lt (pv 0) pe_int (nomark _)) (pss_one (ps_ret (pe_callX (f := h3) (E := WE fun cls d _ H' => E cls d H') (G3x) r5 F3x.kp b3x (fun σ => passAt tk σ) (pe_ix ix_list (pe_lst (pa_cons (pe_glob (v := .ref h3) (by rfl) g3x rfl) (pa_cons (pe_glob (v := .ref h4) (by rfl) g4x rfl) pa_nil))) (pe_op op_sub (pv 0) pe_int) (fun _ _ => rfl)) (pa_cons (pe_ix ix_list (pv 1) pe_int (fun _ _ => rfl)) (pa_cons (pe_ix ix_list (pv 1) pe_int (fun _ _ => rfl)) pa_nil))))) pss_nil) pss_never), ?_⟩
        refine ⟨_, rfl, _, _, rfl, rfl, _, rfl, ite2 (fun q => absurd q (by decide)) fun _ => ?_⟩
        refine ⟨_, rfl, _, _, rfl, rfl, _, rfl, ite2 (fun _ => ?_) fun q => absurd (by decide) q⟩
        refine ⟨(show 2 ≤ sizeLine by decide), fun l nl => ?_⟩
        have sl := sn nl (o := .lst [.ref h3, .ref h4])
        refine ⟨_, rfl, _, _, rfl, rfl, l, _, _, .ref h3, rfl, rfl, SqL.of upd_same, (show atI _ ((0 : Nat) : Int) = _ from atI_nat rfl), rfl, ?_⟩
        refine ⟨_, rfl, G, _, _, _, rfl, rfl, SqL.of (sl _ _ hG), (show atI _ ((0 : Nat) : Int) = _ from atI_nat rfl), _, rfl, G, _, _, _, rfl, rfl, SqL.of (sl _ _ hG), (show atI _ ((1 : Nat) : Int) = _ from atI_nat rfl), ?_⟩
        exact bad3 (Q := fun _ _ => True) (ga.same sl) (h.same sl)
      · refine ⟨_, pss_cons (ps_if (pt_cmpR op_lt (pv 0) pe_int (nomark _)) (pss_one ps_never) pss_nil) (pss_cons (ps_if (pt_cmpR op_lt (pv 0) pe_int (nomark _)) (pss_one (ps_ret (pe_callX (f := f3) (E := fun _ => E0) (G3) r5 F3.kp b3 (fun _ _ _ _ _ _ _ c => c.elim) (pe_ix ix_list (pe_lst (pa_cons (pe_glob (v := .ref f3) (by rfl) g3 rfl) (pa_cons (pe_glob (v := .ref f4) (by rfl) g4 rfl) pa_nil))) (pe_op op_sub (pv 0) pe_int) (fun _ _ => rfl)) (pa_cons (pe_ix ix_list (pv 1) pe_int (fun _ _ => rfl)) (pa_cons (pe_ix ix_list (pv 1) pe_int (fun _ _ => rfl)) pa_nil))))) pss_nil) pss_never), ?_⟩
        refine ⟨_, rfl, _, _, rfl, rfl, _, rfl, ite2 (fun q => absurd q (by decide)) fun _ => ?_⟩
        refine ⟨_, rfl, _, _, rfl, rfl, _, rfl, ite2 (fun _ => ?_) fun q => absurd (by decide) q⟩
        refine ⟨(show 2 ≤ sizeLine by decide), fun l nl => ?_⟩
        have sl := sn nl (o := .lst [.ref f3, .ref f4])
        refine ⟨_, rfl, _, _, rfl, rfl, l, _, _, .ref f3, rfl, rfl, SqL.of upd_same, (show atI _ ((0 : Nat) : Int) = _ from atI_nat rfl), rfl, ?_⟩
        refine ⟨_, rfl, G, _, _, _, rfl, rfl, SqL.of (sl _ _ hG), (show atI _ ((0 : Nat) : Int) = _ from atI_nat rfl), _, rfl, G, _, _, _, rfl, rfl, SqL.of (sl _ _ hG), (show atI _ ((1 : Nat) : Int) = _ from atI_nat rfl), ?_⟩
        exact good3 (E := E0) (ga.same sl) fun v H' s => k v H' (sl.trans s)
    | 4, _ =>
      rcases h with ⟨wd, v, h⟩ | ⟨rfl, k⟩
      · obtain ⟨v0, v1, rfl⟩ : ∃ v0 v1, gs = [v0, v1] := by
          have q : gs.length = 2 := bad_len h
          match gs, q with
          | [v0, v1], _ => exact ⟨v0, v1, rfl⟩
        refine ⟨_, pss_cons (ps_if (pt_cmpR op_lt (pv 0) pe_int (nomark _)) (pss_one ps_never) pss_nil) (pss_cons (ps_if (pt_cmpR op_lt (pv 0) pe_int (nomark _)) (pss_one (ps_ret (pe_callX (f := h4) (E := WE fun cls d _ H' => E cls d H') (G4x) r5 F4x.kp b4x (fun σ => passAt tk σ) (pe_ix ix_list (pe_lst (pa_cons (pe_glob (v := .ref h3) (by rfl) g3x rfl) (pa_cons (pe_glob (v := .ref h4) (by rfl) g4x rfl) pa_nil))) (pe_op op_sub (pv 0) pe_int) (fun _ _ => rfl)) (pa_cons (pe_ix ix_list (pv 1) pe_int (fun _ _ => rfl)) (pa_cons (pe_ix ix_list (pv 1) pe_int (fun _ _ => rfl)) pa_nil))))) pss_nil) pss_never), ?_⟩
        refine ⟨_, rfl, _, _, rfl, rfl, _, rfl, ite2 (fun q => absurd q (by decide)) fun _ => ?_⟩
        refine ⟨_, rfl, _, _, rfl, rfl, _, rfl, ite2 (fun _ => ?_) fun q => absurd (by decide) q⟩
        refine ⟨(show 2 ≤ sizeLine by decide), fun l nl => ?_⟩
        have sl := sn nl (o := .lst [.ref h3, .ref h4])
        refine ⟨_, rfl, _, _, rfl, rfl, l, _, _, .ref h4, rfl, rfl, SqL.of upd_same, (show atI _ ((1 : Nat) : Int) = _ from atI_nat rfl), rfl, ?_⟩
        refine ⟨_, rfl, G, _, _, _, rfl, rfl, SqL.of (sl _ _ hG), (show atI _ ((0 : Nat) : Int) = _ from atI_nat rfl), _, rfl, G, _, _, _, rfl, rfl, SqL.of (sl _ _ hG), (show atI _ ((1 : Nat) : Int) = _ from atI_nat rfl), ?_⟩
        exact bad4 (Q := fun _ _ => True) (ga.same sl) (h.same sl)
      · refine ⟨_, pss_cons (ps_if (pt_cmpR op_lt (pv 0) pe_int (nomark _)) (pss_one ps_never) pss_nil) (pss_cons (ps_if (pt_cmpR op_lt (pv 0) pe_int (nomark _)) (pss_one (ps_ret (pe_callX (f := f4) (E := fun _ => E0) (G4) r2 F4.kp b4 (fun _ _ _ _ _ _ _ c => c.elim) (pe_ix ix_list (pe_lst (pa_cons (pe_glob (v := .ref f3) (by rfl) g3 rfl) (pa_cons (pe_glob (v := .ref f4) (by rfl) g4 rfl) pa_nil))) (pe_op op_sub (pv 0) pe_int) (fun _ _ => rfl)) (pa_cons (pe_ix ix_list (pv 1) pe_int (fun _ _ => rfl)) (pa_cons (pe_ix ix_list (pv 1) pe_int (fun _ _ => rfl)) pa_nil))))) pss_nil) pss_never), ?_⟩
        refine ⟨_, rfl, _, _, rfl, rfl, _, rfl, ite2 (fun q => absurd q (by decide)) fun _ => ?_⟩
        refine ⟨_, rfl, _, _, rfl, rfl, _, rfl, ite2 (fun _ => ?_) fun q => absurd (by decide) q⟩
        refine ⟨(show 2 ≤ sizeLine by decide), fun l nl => ?_⟩
        have sl := sn nl (o := .lst [.ref f3, .ref f4])
        refine ⟨_, rfl, _, _, rfl, rfl, l, _, _, .ref f4, rfl, rfl, SqL.of upd_same, (show atI _ ((1 : Nat) : Int) = _ from atI_nat rfl), rfl, ?_⟩
        refine ⟨_, rfl, G, _, _, _, rfl, rfl, SqL.of (sl _ _ hG), (show atI _ ((0 : Nat) : Int) = _ from atI_nat rfl), _, rfl, G, _, _, _, rfl, rfl, SqL.of (sl _ _ hG), (show atI _ ((1 : Nat) : Int) = _ from atI_nat rfl), ?_⟩
        exact good4 (E := E0) (ga.same sl) fun v H' s => k v H' (sl.trans s)
    | 5, _ =>
      rcases h with ⟨wd, v, h⟩ | ⟨rfl, k⟩
      · obtain ⟨v0, v1, v2, rfl⟩ : ∃ v0 v1 v2, gs = [v0, v1, v2] := by
          have q : gs.length = 3 := bad_len h
          match gs, q with
          | [v0, v1, v2], _ => exact ⟨v0, v1, v2, rfl⟩
        refine ⟨_, pss_cons (ps_if (pt_cmpR op_lt (pv 0) pe_int (nomark _)) (pss_one ps_never) pss_nil) (pss_cons (ps_if (pt_cmpR op_lt (pv 0) pe_int (nomark _)) (pss_one ps_never) pss_nil) (pss_one (ps_ret (pe_callX (f := h5) (E := WE fun cls d _ H' => E cls d H') (G5x) r5 F5x.kp b5x (fun σ => passAt tk σ) (pe_ix ix_list (pe_lst (pa_cons (pe_glob (v := .ref h5) (by rfl) g5x rfl) (pa_cons (pe_glob (v := .ref h6) (by rfl) g6x rfl) (pa_cons (pe_glob (v := .ref h7) (by rfl) g7x rfl) pa_nil)))) (pe_op op_sub (pv 0) pe_int) (fun _ _ => rfl)) (pa_cons (pe_ix ix_list (pv 1) pe_int (fun _ _ => rfl)) (pa_cons (pe_ix ix_list (pv 1) pe_int (fun _ _ => rfl)) (pa_cons (pe_ix ix_list (pv 1) pe_int (fun _ _ => rfl)) pa_nil))))))), ?_⟩
        refine ⟨_, rfl, _, _, rfl, rfl, _, rfl, ite2 (fun q => absurd q (by decide)) fun _ => ?_⟩
        refine ⟨_, rfl, _, _, rfl, rfl, _, rfl, ite2 (fun q => absurd q (by decide)) fun _ => ?_⟩
        refine ⟨(show 3 ≤ sizeLine by decide), fun l nl => ?_⟩
        have sl := sn nl (o := .lst [.ref h5, .ref h6, .ref h7])
        refine ⟨_, rfl, _, _, rfl, rfl, l, _, _, .ref h5, rfl, rfl, SqL.of upd_same, (show atI _ ((0 : Nat) : Int) = _ from atI_nat rfl), rfl, ?_⟩
        refine ⟨_, rfl, G, _, _, _, rfl, rfl, SqL.of (sl _ _ hG), (show atI _ ((0 : Nat) : Int) = _ from atI_nat rfl), _, rfl, G, _, _, _, rfl, rfl, SqL.of (sl _ _ hG), (show atI _ ((1 : Nat) : Int) = _ from atI_nat rfl), _, rfl, G, _, _, _, rfl, rfl, SqL.of (sl _ _ hG), (show atI _ ((2 : Nat) : Int) = _ from atI_nat rfl), ?_⟩
        exact bad5 (Q := fun _ _ => True) (ga.same sl) (h.same sl)
      · refine ⟨_, pss_cons (ps_if (pt_cmpR op_lt (pv 0) pe_int (nomark _)) (pss_one ps_never) pss_nil) (pss_cons (ps_if (pt_cmpR op_lt (pv 0) pe_int (nomark _)) (pss_one ps_never) pss_nil) (pss_one (ps_ret (pe_callX (f := f5) (E := fun _ => E0) (G5) r5 F5.kp b5 (fun _ _ _ _ _ _ _ c => c.elim) (pe_ix ix_list (pe_lst (pa_cons (pe_glob (v := .ref f5) (by rfl) g5 rfl) (pa_cons (pe_glob (v := .ref f6) (by rfl) g6 rfl) (pa_cons (pe_glob (v := .ref f7) (by rfl) g7 rfl) pa_nil)))) (pe_op op_sub (pv 0) pe_int) (fun _ _ => rfl)) (pa_cons (pe_ix ix_list (pv 1) pe_int (fun _ _ => rfl)) (pa_cons (pe_ix ix_list (pv 1) pe_int (fun _ _ => rfl)) (pa_cons (pe_ix ix_list (pv 1) pe_int (fun _ _ => rfl)) pa_nil))))))), ?_⟩
        refine ⟨_, rfl, _, _, rfl, rfl, _, rfl, ite2 (fun q => absurd q (by decide)) fun _ => ?_⟩
        refine ⟨_, rfl, _, _, rfl, rfl, _, rfl, ite2 (fun q => absurd q (by decide)) fun _ => ?_⟩
        refine ⟨(show 3 ≤ sizeLine by decide), fun l nl => ?_⟩
        have sl := sn nl (o := .lst [.ref f5, .ref f6, .ref f7])
        refine ⟨_, rfl, _, _, rfl, rfl, l, _, _, .ref f5, rfl, rfl, SqL.of upd_same, (show atI _ ((0 : Nat) : Int) = _ from atI_nat rfl), rfl, ?_⟩
        refine ⟨_, rfl, G, _, _, _, rfl, rfl, SqL.of (sl _ _ hG), (show atI _ ((0 : Nat) : Int) = _ from atI_nat rfl), _, rfl, G, _, _, _, rfl, rfl, SqL.of (sl _ _ hG), (show atI _ ((1 : Nat) : Int) = _ from atI_nat rfl), _, rfl, G, _, _, _, rfl, rfl, SqL.of (sl _ _ hG), (show atI _ ((2 : Nat) : Int) = _ from atI_nat rfl), ?_⟩
        exact good5 (E := E0) (ga.same sl) fun v H' s => k v H' (sl.trans s)
    | 6, _ =>
      rcases h with ⟨wd, v, h⟩ | ⟨rfl, k⟩
      · obtain ⟨v0, v1, v2, rfl⟩ : ∃ v0 v1 v2, gs = [v0, v1, v2] := by
          have q : gs.length = 3 := bad_len h
          match gs, q with
          | [v0, v1, v2], _ => exact ⟨v0, v1, v2, rfl⟩
        refine ⟨_, pss_cons (ps_if (pt_cmpR op_lt (pv 0) pe_int (nomark _)) (pss_one ps_never) pss_nil) (pss_cons (ps_if (pt_cmpR op_lt (pv 0) pe_int (nomark _)) (pss_one ps_never) pss_nil) (pss_one (ps_ret (pe_callX (f := h6) (E := WE fun cls d _ H' => E cls d H') (G6x) r5 F6x.kp b6x (fun σ => passAt tk σ) (pe_ix ix_list (pe_lst (pa_cons (pe_glob (v := .ref h5) (by rfl) g5x rfl) (pa_cons (pe_glob (v := .ref h6) (by rfl) g6x rfl) (pa_cons (pe_glob (v := .ref h7) (by rfl) g7x rfl) pa_nil)))) (pe_op op_sub (pv 0) pe_int) (fun _ _ => rfl)) (pa_cons (pe_ix ix_list (pv 1) pe_int (fun _ _ => rfl)) (pa_cons (pe_ix ix_list (pv 1) pe_int (fun _ _ => rfl)) (pa_cons (pe_ix ix_list (pv 1) pe_int (fun _ _ => rfl)) pa_nil))))))), ?_⟩
        refine ⟨_, rfl, _, _, rfl, rfl, _, rfl, ite2 (fun q => absurd q (by decide)) fun _ => ?_⟩
        refine ⟨_, rfl, _, _, rfl, rfl, _, rfl, ite2 (fun q => absurd q (by decide)) fun _ => ?_⟩
        refine ⟨(show 3 ≤ sizeLine by decide), fun l nl => ?_⟩
        have sl := sn nl (o := .lst [.ref h5, .ref h6, .ref h7])
        refine ⟨_, rfl, _, _, rfl, rfl, l, _, _, .ref h6, rfl, rfl, SqL.of upd_same, (show atI _ ((1 : Nat) : Int) = _ from atI_nat rfl), rfl, ?_⟩
        refine ⟨_, rfl, G, _, _, _, rfl, rfl, SqL.of (sl _ _ hG), (show atI _ ((0 : Nat) : Int) = _ from atI_nat rfl), _, rfl, G, _, _, _, rfl, rfl, SqL.of (sl _ _ hG), (show atI _ ((1 : Nat) : Int) = _ from atI_nat rfl), _, rfl, G, _, _, _, rfl, rfl, SqL.of (sl _ _ hG), (show atI _ ((2 : Nat) : Int) = _ from atI_nat rfl), ?_⟩
        exact bad6 (Q := fun _ _ => True) (ga.same sl) (h.same sl)
      · refine ⟨_, pss_cons (ps_if (pt_cmpR op_lt (pv 0) pe_int (nomark _)) (pss_one ps_never) pss_nil) (pss_cons (ps_if (pt_cmpR op_lt (pv 0) pe_int (nomark _)) (pss_one ps_never) pss_nil) (pss_one (ps_ret (pe_callX (f := f6) (E := fun _ => E0) (G6) r5 F6.kp b6 (fun _ _ _ _ _ _ _ c => c.elim) (pe_ix ix_list (pe_lst (pa_cons (pe_glob (v := .ref f5) (by rfl) g5 rfl) (pa_cons (pe_glob (v := .ref f6) (by rfl) g6 rfl) (pa_cons (pe_glob (v := .ref f7) (by rfl) g7 rfl) pa_nil)))) (pe_op op_sub (pv 0) pe_int) (fun _ _ => rfl)) (pa_cons (pe_ix ix_list (pv 1) pe_int (fun _ _ => rfl)) (pa_cons (pe_ix ix_list (pv 1) pe_int (fun _ _ => rfl)) (pa_cons (pe_ix ix_list (pv 1) pe_int (fun _ _ => rfl)) pa_nil))))))), ?_⟩
        refine ⟨_, rfl, _, _, rfl, rfl, _, rfl, ite2 (fun q => absurd q (by decide)) fun _ => ?_⟩
        refine ⟨_, rfl, _, _, rfl, rfl, _, rfl, ite2 (fun q => absurd q (by decide)) fun _ => ?_⟩
        refine ⟨(show 3 ≤ sizeLine by decide), fun l nl => ?_⟩
        have sl := sn nl (o := .lst [.ref f5, .ref f6, .ref f7])
        refine ⟨_, rfl, _, _, rfl, rfl, l, _, _, .ref f6, rfl, rfl, SqL.of upd_same, (show atI _ ((1 : Nat) : Int) = _ from atI_nat rfl), rfl, ?_⟩
        refine ⟨_, rfl, G, _, _, _, rfl, rfl, SqL.of (sl _ _ hG), (show atI _ ((0 : Nat) : Int) = _ from atI_nat rfl), _, rfl, G, _, _, _, rfl, rfl, SqL.of (sl _ _ hG), (show atI _ ((1 : Nat) : Int) = _ from atI_nat rfl), _, rfl, G, _, _, _, rfl, rfl, SqL.of (sl _ _ hG), (show atI _ ((2 : Nat) : Int) = _ from atI_nat rfl), ?_⟩
        exact good6 (E := E0) (ga.same sl) fun v H' s => k v H' (sl.trans s)
    | 7, _ =>
      rcases h with ⟨wd, v, h⟩ | ⟨rfl, k⟩
      · obtain ⟨v0, v1, v2, rfl⟩ : ∃ v0 v1 v2, gs = [v0, v1, v2] := by
          have q : gs.length = 3 := bad_len h
          match gs, q with
          | [v0, v1, v2], _ => exact ⟨v0, v1, v2, rfl⟩
        refine ⟨_, pss_cons (ps_if (pt_cmpR op_lt (pv 0) pe_int (nomark _)) (pss_one ps_never) pss_nil) (pss_cons (ps_if (pt_cmpR op_lt (pv 0) pe_int (nomark _)) (pss_one ps_never) pss_nil) (pss_one (ps_ret (pe_callX (f := h7) (E := WE fun cls d _ H' => E cls d H') (G7x) r5 F7x.kp b7x (fun σ => passAt tk σ) (pe_ix ix_list (pe_lst (pa_cons (pe_glob (v := .ref h5) (by rfl) g5x rfl) (pa_cons (pe_glob (v := .ref h6) (by rfl) g6x rfl) (pa_cons (pe_glob (v := .ref h7) (by rfl) g7x rfl) pa_nil)))) (pe_op op_sub (pv 0) pe_int) (fun _ _ => rfl)) (pa_cons (pe_ix ix_list (pv 1) pe_int (fun _ _ => rfl)) (pa_cons (pe_ix ix_list (pv 1) pe_int (fun _ _ => rfl)) (pa_cons (pe_ix ix_list (pv 1) pe_int (fun _ _ => rfl)) pa_nil))))))), ?_⟩
        refine ⟨_, rfl, _, _, rfl, rfl, _, rfl, ite2 (fun q => absurd q (by decide)) fun _ => ?_⟩
        refine ⟨_, rfl, _, _, rfl, rfl, _, rfl, ite2 (fun q => absurd q (by decide)) fun _ => ?_⟩
        refine ⟨(show 3 ≤ sizeLine by decide), fun l nl => ?_⟩
        have sl := sn nl (o := .lst [.ref h5, .ref h6, .ref h7])
        refine ⟨_, rfl, _, _, rfl, rfl, l, _, _, .ref h7, rfl, rfl, SqL.of upd_same, (show atI _ ((2 : Nat) : Int) = _ from atI_nat rfl), rfl, ?_⟩
        refine ⟨_, rfl, G, _, _, _, rfl, rfl, SqL.of (sl _ _ hG), (show atI _ ((0 : Nat) : Int) = _ from atI_nat rfl), _, rfl, G, _, _, _, rfl, rfl, SqL.of (sl _ _ hG), (show atI _ ((1 : Nat) : Int) = _ from atI_nat rfl), _, rfl, G, _, _, _, rfl, rfl, SqL.of (sl _ _ hG), (show atI _ ((2 : Nat) : Int) = _ from atI_nat rfl), ?_⟩
        exact bad7 (Q := fun _ _ => True) (ga.same sl) (h.same sl)
      · refine ⟨_, pss_cons (ps_if (pt_cmpR op_lt (pv 0) pe_int (nomark _)) (pss_one ps_never) pss_nil) (pss_cons (ps_if (pt_cmpR op_lt (pv 0) pe_int (nomark _)) (pss_one ps_never) pss_nil) (pss_one (ps_ret (pe_callX (f := f7) (E := fun _ => E0) (G7) r3 F7.kp b7 (fun _ _ _ _ _ _ _ c => c.elim) (pe_ix ix_list (pe_lst (pa_cons (pe_glob (v := .ref f5) (by rfl) g5 rfl) (pa_cons (pe_glob (v := .ref f6) (by rfl) g6 rfl) (pa_cons (pe_glob (v := .ref f7) (by rfl) g7 rfl) pa_nil)))) (pe_op op_sub (pv 0) pe_int) (fun _ _ => rfl)) (pa_cons (pe_ix ix_list (pv 1) pe_int (fun _ _ => rfl)) (pa_cons (pe_ix ix_list (pv 1) pe_int (fun _ _ => rfl)) (pa_cons (pe_ix ix_list (pv 1) pe_int (fun _ _ => rfl)) pa_nil))))))), ?_⟩
        refine ⟨_, rfl, _, _, rfl, rfl, _, rfl, ite2 (fun q => absurd q (by decide)) fun _ => ?_⟩
        refine ⟨_, rfl, _, _, rfl, rfl, _, rfl, ite2 (fun q => absurd q (by decide)) fun _ => ?_⟩
        refine ⟨(show 3 ≤ sizeLine by decide), fun l nl => ?_⟩
        have sl := sn nl (o := .lst [.ref f5, .ref f6, .ref f7])
        refine ⟨_, rfl, _, _, rfl, rfl, l, _, _, .ref f7, rfl, rfl, SqL.of upd_same, (show atI _ ((2 : Nat) : Int) = _ from atI_nat rfl), rfl, ?_⟩
        refine ⟨_, rfl, G, _, _, _, rfl, rfl, SqL.of (sl _ _ hG), (show atI _ ((0 : Nat) : Int) = _ from atI_nat rfl), _, rfl, G, _, _, _, rfl, rfl, SqL.of (sl _ _ hG), (show atI _ ((1 : Nat) : Int) = _ from atI_nat rfl), _, rfl, G, _, _, _, rfl, rfl, SqL.of (sl _ _ hG), (show atI _ ((2 : Nat) : Int) = _ from atI_nat rfl), ?_⟩
        exact good7 (E := E0) (ga.same sl) fun v H' s => k v H' (sl.trans s)
end
end K08

set_option maxHeartbeats 16000000
namespace K08
open PySem PySem.Spec PyProof.Rows L2 G1
/-- what is known of the errors' classes where they are caught -/
structure CatC (K : PySem.W.Frag) (mg : Str → Option Value) : Prop where
  xf : ∀ w : Wd, XfC K (ga K w.err)
  nv : ∀ w : Wd, PySem.W.findIn K (.ref (ga K w.err)) "value" = some none
  gl : ∀ w : Wd, mg w.err = some (.ref (ga K w.err))
  ex : ∀ v w : Wd, PySem.W.exmOne K (.ref (ga K v.err)) (.ref (ga K w.err)) = some (decide (v.str = w.str))
def tSuite (x : Str) (C : Addr) : TsE := fun a cls d => tAsg (tLst (tCons (tC (.str x)) (tCons (tXf a cls d C "value" (tVar 3)) tNil))) (gName 2)
def spCaught (K : PySem.W.Frag) (C : Addr) : Sp := fun vs H Q _ => ∃ (d : Nat) (G : Addr) (gs : List V) (a f : Addr) (i : Nat) (z : Str) (xs fs : List Str) (rs : List (List Str)), vs = [.int (d : Int), .ref G] ∧ d < 8 ∧ H G = some (.lst gs) ∧ GA H C a f i z xs fs rs ∧
  ((∃ w v, BadA K C a f i z xs rs H (fun _ _ _ => True) d gs w v ∧ ∀ D H', Same H H' → H D = none → H' D = some (.lst [.str w.str, v]) → Q (.ref D) H') ∨ (gs = (dW d).map (gw a f i z) ∧ ∀ H', Same H H' → Q .non H'))
section
variable {P : Program} {w : World} {K : PySem.W.Frag} {mg : Str → Option Value} {base : Heap} {C : Addr}
abbrev sCaught : Stmt := top 43
abbrev nCaught : List Str := ["_law_door", "_law_given", "_law_caught_here", "error"]
theorem scCaught : FnScope nCaught ["_law_door", "_law_given"] (defScope sCaught) := ⟨rfl, rfl, rfl, by decide +kernel, rfl, by decide +kernel, by decide +kernel⟩
theorem ok_caught {f : Addr} {fd : FuncData} (F : FnP K "_law_caught" sCaught f fd) (CC : CatC K mg) (DA : DfX P w K mg base 7 "_law_asked" sAsked ["_law_door", "_law_given"] (spAsked K C)) : FnOk P w K mg base CX0 8 f fd ["_law_door", "_law_given"] (spCaught K C) := by
  refine okN F scCaught (fun vs H Q E h => ?_) (fun cdv A outer s H vs Q E hr h => ?_)
  · obtain ⟨_, _, _, _, _, _, _, _, _, _, rfl, _⟩ := h
    rfl
  · obtain ⟨d, G, gs, a, f2, i, z, xs, fs, rs, rfl, hd, hG, gaa, h⟩ := h
    have nd := scCaught.nd
    refine ⟨_, pss_cons (ps_set (i := 2) nd rfl (Or.inl rfl) pe_non)
      (pss_cons (ps_try_some (i := 3) (n := "error") (tb := fun W => tDrop (tCallS (spAsked K C) (WE W) (tCons (tVar 0) (tCons (tVar 1) tNil))))
          (l := [(.ref (ga K Wd.pan.err), tSuite "panel" (ga K Wd.pan.err)), (.ref (ga K Wd.cnt.err), tSuite "count" (ga K Wd.cnt.err)), (.ref (ga K Wd.fld.err), tSuite "field" (ga K Wd.fld.err)), (.ref (ga K Wd.ent.err), tSuite "entry" (ga K Wd.ent.err))]) rfl rfl nd rfl rfl
          (fun W pn xe tk _ => pss_one (ps_expr (pe_dfX DA hr (by rfl) tk (pa_cons (pv 0) (pa_cons (pv 1) pa_nil)))))
          (.cons ⟨rfl, by decide, .inl (CC.gl .pan)⟩ (fun a oe cls d pn hz hf => pss_one (ps_set (i := 2) nd rfl (Or.inl rfl) (pe_lst (pa_cons pe_str (pa_cons (pe_xf (CC.xf .pan) (CC.nv .pan) hz hf (pv 3)) pa_nil)))))
          (.cons ⟨rfl, by decide, .inl (CC.gl .cnt)⟩ (fun a oe cls d pn hz hf => pss_one (ps_set (i := 2) nd rfl (Or.inl rfl) (pe_lst (pa_cons pe_str (pa_cons (pe_xf (CC.xf .cnt) (CC.nv .cnt) hz hf (pv 3)) pa_nil)))))
          (.cons ⟨rfl, by decide, .inl (CC.gl .fld)⟩ (fun a oe cls d pn hz hf => pss_one (ps_set (i := 2) nd rfl (Or.inl rfl) (pe_lst (pa_cons pe_str (pa_cons (pe_xf (CC.xf .fld) (CC.nv .fld) hz hf (pv 3)) pa_nil)))))
          (.cons ⟨rfl, by decide, .inl (CC.gl .ent)⟩ (fun a oe cls d pn hz hf => pss_one (ps_set (i := 2) nd rfl (Or.inl rfl) (pe_lst (pa_cons pe_str (pa_cons (pe_xf (CC.xf .ent) (CC.nv .ent) hz hf (pv 3)) pa_nil))))) .stop)))))
      (pss_one (ps_ret (pv 2)))), ?_⟩
    refine ⟨_, rfl, _, rfl, d, G, gs, a, f2, i, z, xs, fs, rs, rfl, hd, hG, gaa, ?_⟩
    rcases h with ⟨wd, v, hb, k⟩ | ⟨e, k⟩
    · refine .inl ⟨wd, v, ?_⟩
      obtain ⟨p, rest, h1, h2, h3, h4, _⟩ := hb
      refine ⟨p, rest, h1, h2, h3, h4, fun dd H2 s2 nd2 hd2 => ?_⟩
      cases wd with
      | pan =>
        refine ⟨true, CC.ex .pan .pan, fun _ x nx => ?_, (fun q => nomatch q)⟩
        refine ⟨_, rfl, rfl, rfl, dd, _, v, rfl, hd2, rfl, (show 2 ≤ sizeLine by decide), fun D nD => ?_⟩
        exact ⟨_, rfl, k D _ (s2.trans (sn nD)) (s2.free nD) upd_same⟩
      | cnt =>
        refine ⟨false, CC.ex .cnt .pan, (fun q => nomatch q), fun _ => ⟨true, CC.ex .cnt .cnt, fun _ x nx => ?_, (fun q => nomatch q)⟩⟩
        refine ⟨_, rfl, rfl, rfl, dd, _, v, rfl, hd2, rfl, (show 2 ≤ sizeLine by decide), fun D nD => ?_⟩
        exact ⟨_, rfl, k D _ (s2.trans (sn nD)) (s2.free nD) upd_same⟩
      | fld =>
        refine ⟨false, CC.ex .fld .pan, (fun q => nomatch q), fun _ => ⟨false, CC.ex .fld .cnt, (fun q => nomatch q), fun _ => ⟨true, CC.ex .fld .fld, fun _ x nx => ?_, (fun q => nomatch q)⟩⟩⟩
        refine ⟨_, rfl, rfl, rfl, dd, _, v, rfl, hd2, rfl, (show 2 ≤ sizeLine by decide), fun D nD => ?_⟩
        exact ⟨_, rfl, k D _ (s2.trans (sn nD)) (s2.free nD) upd_same⟩
      | ent =>
        refine ⟨false, CC.ex .ent .pan, (fun q => nomatch q), fun _ => ⟨false, CC.ex .ent .cnt, (fun q => nomatch q), fun _ => ⟨false, CC.ex .ent .fld, (fun q => nomatch q), fun _ => ⟨true, CC.ex .ent .ent, fun _ x nx => ?_, (fun q => nomatch q)⟩⟩⟩⟩
        refine ⟨_, rfl, rfl, rfl, dd, _, v, rfl, hd2, rfl, (show 2 ≤ sizeLine by decide), fun D nD => ?_⟩
        exact ⟨_, rfl, k D _ (s2.trans (sn nD)) (s2.free nD) upd_same⟩
    · exact .inr ⟨e, fun v H' s' => ⟨_, rfl, k H' s'⟩⟩
end
end K08

set_option maxHeartbeats 16000000
namespace K08
open PySem PySem.Spec PyProof.Rows L2 G1
def selfV : V → Bool
  | .ref _ => true
  | v => flatV v
theorem self_eqW {K : PySem.W.Frag} {H : Hp} {n : Nat} {v : V} (h : selfV v = true) : EqW K H n v v true := by
  cases v with
  | ref a => exact .same
  | non => exact (.flat rfl rfl : EqW K H n .non .non (eqV .non .non))
  | bl b =>
    have e : eqV (.bl b) (.bl b) = true := by cases b <;> rfl
    rw [← e]
    exact .flat rfl rfl
  | int i =>
    have e : eqV (.int i) (.int i) = true := beq_self_eq_true i
    rw [← e]
    exact .flat rfl rfl
  | str z =>
    have e : eqV (.str z) (.str z) = true := beq_self_eq_true z
    rw [← e]
    exact .flat rfl rfl
  | _ => cases h
/-! ### making things of which something is known -/
def Mk1 (te : TE) (σ : L2.St) (H0 : Hp) (Pv : Hp → V → Prop) : Prop := ∀ (H : Hp) (Qk : VK), Same H0 H → (∀ v H', Same H H' → Pv H' v → Qk v H') → te σ H Qk
def MkA (ta : TA) (σ : L2.St) (H0 : Hp) (Pv : Hp → V → Prop) (n : Nat) : Prop := ∀ (H : Hp) (Qk : List V → Hp → Prop), Same H0 H → (∀ vs H', Same H H' → vs.length = n → (∀ v ∈ vs, Pv H' v) → Qk vs H') → ta σ H Qk
def MonV (Pv : Hp → V → Prop) : Prop := ∀ H H' v, Same H H' → Pv H v → Pv H' v
section
variable {σ : L2.St} {H0 : Hp} {Pv : Hp → V → Prop}
theorem mk_c {v : V} (h : ∀ H, Pv H v) : Mk1 (tC v) σ H0 Pv := fun H Qk _ k => k v H (Same.refl H) (h H)
theorem mk_l {ta : TA} {vs : List V} (e : ∀ σ H Q, ta σ H Q = Q vs H) (le : vs.length ≤ 30) (h : ∀ H p, H p = some (.lst vs) → Pv H (.ref p)) : Mk1 (tLst ta) σ H0 Pv := fun H Qk _ k => by
  show ta σ H _
  rw [e]
  exact ⟨Nat.le_of_lt (small1000 (by omega)), fun p np => k _ _ (sn np) (h _ _ upd_same)⟩
theorem mk_t {ta : TA} {vs : List V} (e : ∀ σ H Q, ta σ H Q = Q vs H) (le : vs.length ≤ 30) (h : ∀ H p, H p = some (.tup vs) → Pv H (.ref p)) : Mk1 (tTup ta) σ H0 Pv := fun H Qk _ k => by
  show ta σ H _
  rw [e]
  exact ⟨Nat.le_of_lt (small1000 (by omega)), fun p np => k _ _ (sn np) (h _ _ upd_same)⟩
theorem mk_d (h : ∀ H p, H p = some (.dK []) → Pv H (.ref p)) : Mk1 tDNewK σ H0 Pv := fun H Qk _ k p np => k _ _ (sn np) (h _ _ upd_same)
theorem mkA_nil : MkA tNil σ H0 Pv 0 := fun H Qk _ k => k [] H (Same.refl H) rfl fun v hv => nomatch hv
theorem mkA_cons {te : TE} {ta : TA} {n : Nat} (mo : MonV Pv) (h : Mk1 te σ H0 Pv) (t : MkA ta σ H0 Pv n) : MkA (tCons te ta) σ H0 Pv (n + 1) := fun H Qk s0 k => h H _ s0 fun v H1 s1 p1 => t H1 _ (s0.trans s1) fun vs H2 s2 l2 ps => k (v :: vs) H2 (s1.trans s2) (by rw [List.length_cons, l2]) fun x hx => by
  rcases List.mem_cons.mp hx with rfl | hx
  · exact mo _ _ _ s2 p1
  · exact ps x hx
theorem mk_out {ta : TA} {n : Nat} (mo : MonV Pv) (t : MkA ta σ H0 Pv n) (le : n ≤ 30) {H : Hp} {Q : VK} (s : Same H0 H) (k : ∀ D vs H', Same H H' → H D = none → H' D = some (.lst vs) → vs.length = n → (∀ v ∈ vs, Pv H' v) → Q (.ref D) H') : tLst ta σ H Q :=
  t H _ s fun vs H1 s1 l1 ps => ⟨Nat.le_of_lt (small1000 (by omega)), fun D nD => k D vs _ (s1.trans (sn nD)) (s1.free nD) upd_same l1 fun v hv => mo _ _ _ (sn nD) (ps v hv)⟩
end
/-! ### the odd things -/
def jx : List Str := ["ale", "bun", "cob"]
section
variable {K : PySem.W.Frag} {C : Addr}
def PO (K : PySem.W.Frag) (C : Addr) (many : Nat) (w : Wd) : Hp → V → Prop := fun H v => OddW K C H jx many w v ∧ selfV v = true
theorem po_mon {many : Nat} {w : Wd} : MonV (PO K C many w) := fun H H' v s h => ⟨h.1.same s, h.2⟩
/-- what is known of the class beside -/
structure PanO (K : PySem.W.Frag) (C : Addr) : Prop where
  no : ∀ T : String, T = "NoneType" ∨ T = "int" ∨ T = "list" ∨ T = "tuple" ∨ T = "str" ∨ T = "dict" ∨ T = "bool" → PySem.W.kitOne K (.type T) (.ref C) = some false
section
variable (O : PanO K C) {H : Hp} {many : Nat}
include O
theorem p_non : PO K C many .pan H .non := ⟨⟨"NoneType", .base .non, O.no _ (by decide)⟩, rfl⟩
theorem p_int (i : Int) : PO K C many .pan H (.int i) := ⟨⟨"int", .base (.int i), O.no _ (by decide)⟩, rfl⟩
theorem p_str (z : Str) : PO K C many .pan H (.str z) := ⟨⟨"str", .base (.str z), O.no _ (by decide)⟩, rfl⟩
theorem p_bl (b : Bool) : PO K C many .pan H (.bl b) := ⟨⟨"bool", .base (.bl b), O.no _ (by decide)⟩, rfl⟩
theorem p_lst {p : Addr} {vs : List V} (h : H p = some (.lst vs)) : PO K C many .pan H (.ref p) := ⟨⟨"list", .base (.lst h), O.no _ (by decide)⟩, rfl⟩
theorem p_tup {p : Addr} {vs : List V} (h : H p = some (.tup vs)) : PO K C many .pan H (.ref p) := ⟨⟨"tuple", .base (.tup h), O.no _ (by decide)⟩, rfl⟩
theorem p_dct {p : Addr} {kvs : List (Key × V)} (h : H p = some (.dK kvs)) : PO K C many .pan H (.ref p) := ⟨⟨"dict", .base (.dK h), O.no _ (by decide)⟩, rfl⟩
end
section
variable {H : Hp} {many : Nat}
theorem c_non : PO K C many .cnt H .non := ⟨.inl (.inl ⟨"NoneType", .base .non, by decide +kernel⟩), rfl⟩
theorem c_str (z : Str) : PO K C many .cnt H (.str z) := ⟨.inl (.inl ⟨"str", .base (.str z), by decide +kernel⟩), rfl⟩
theorem c_bl (b : Bool) : PO K C many .cnt H (.bl b) := ⟨.inl (.inr ⟨b, rfl⟩), rfl⟩
theorem c_int {i : Int} (h : i < 0 ∨ (many : Int) ≤ i) : PO K C many .cnt H (.int i) := ⟨.inr ⟨i, rfl, h⟩, rfl⟩
theorem c_lst {p : Addr} {vs : List V} (h : H p = some (.lst vs)) : PO K C many .cnt H (.ref p) := ⟨.inl (.inl ⟨"list", .base (.lst h), by decide +kernel⟩), rfl⟩
theorem c_tup {p : Addr} {vs : List V} (h : H p = some (.tup vs)) : PO K C many .cnt H (.ref p) := ⟨.inl (.inl ⟨"tuple", .base (.tup h), by decide +kernel⟩), rfl⟩
theorem c_dct {p : Addr} {kvs : List (Key × V)} (h : H p = some (.dK kvs)) : PO K C many .cnt H (.ref p) := ⟨.inl (.inl ⟨"dict", .base (.dK h), by decide +kernel⟩), rfl⟩
theorem n_of {v : V} {o : Option Str} (r : RIt K H v o) (h : inO jx o = false) (s : selfV v = true) : PO K C many .ent H v := ⟨⟨o, r, h⟩, s⟩
theorem f_no {v : V} {T : String} (t : TyX K H v (.type T)) (k : kitB T "list" = some false) (s : selfV v = true) : PO K C many .fld H v := ⟨.inl ⟨T, t, k⟩, s⟩
theorem f_odd {p : Addr} {vs : List V} {os : List (Option Str)} (h : H p = some (.lst vs)) (le : vs.length ≤ 60) (r : RItL K H vs os) (no : os.all (inO jx) = false) : PO K C many .fld H (.ref p) := ⟨.inr (.inl ⟨p, vs, os, rfl, h, le, r, no⟩), rfl⟩
theorem f_str {p : Addr} (ws : List Str) (h : H p = some (.lst (ws.map V.str))) (le : ws.length ≤ 60) (no : (lotB jx ws && decide (0 < ws.length)) = false) : PO K C many .fld H (.ref p) := ⟨.inr (.inr ⟨p, ws, rfl, h, le, no⟩), rfl⟩
end
end
end K08

set_option maxHeartbeats 16000000
namespace K08
open PySem PySem.Spec PyProof.Rows L2 G1
def spOdds (K : PySem.W.Frag) (C : Addr) : Sp := fun vs H Q _ => ∃ (w : Wd) (a : Addr) (rs : List (List Str)), vs = [.str w.str, .ref a] ∧ PanF H C a jx rs ∧ rs.length = 2 ∧
  ∀ (D : Addr) (os : List V) (H' : Hp), Same H H' → H D = none → H' D = some (.lst os) → os.length ≤ 30 → (∀ v ∈ os, PO K C 2 w H' v) → Q (.ref D) H'
section
variable {P : Program} {w : World} {K : PySem.W.Frag} {mg : Str → Option Value} {base : Heap} {C : Addr}
abbrev sOdds : Stmt := top 45
abbrev nOdds : List Str := ["_law_word", "_law_made", "_law_some"]
theorem scOdds : FnScope nOdds ["_law_word", "_law_made"] (defScope sOdds) := ⟨rfl, rfl, rfl, by decide +kernel, rfl, by decide +kernel, by decide +kernel⟩
theorem ok_odds {f : Addr} {fd : FuncData} (F : FnP K "_law_odds" sOdds f fd) (N : PanP P w K mg base C) (O : PanO K C) : FnOk P w K mg base CX0 2 f fd ["_law_word", "_law_made"] (spOdds K C) := by
  refine okN F scOdds (fun vs H Q E h => ?_) (fun cdv A outer s H vs Q E hr h => ?_)
  · obtain ⟨_, _, _, rfl, _⟩ := h
    rfl
  · obtain ⟨wd, a, rs, rfl, pan, l2, k⟩ := h
    have nd := scOdds.nd
    obtain ⟨dx, gs, fr1, fr2, fr3, fr4⟩ := id pan.fre
    have r1 : Room 1 (A.deeper (envOfC "_law_odds" (defScope sOdds) s.heap.objs.size f cdv)) := hr.mono (by decide)
    refine' ⟨_, pss_cons ?s0 (pss_cons ?s1 (pss_cons ?s2 (pss_cons ?s3 (pss_cons ?s4 (pss_one ?s5))))), ?_⟩
    case s0 => exact (ps_if (pt_cmpR op_eq (pv 0) pe_str (by rfl)) (pss_one (ps_ret (pe_lst (pa_cons pe_non (pa_cons pe_int (pa_cons pe_str (pa_cons (pe_lst pa_nil) (pa_cons (pe_tup pa_nil) (pa_cons pe_dnewK (pa_cons pe_bl (pa_cons (pe_lst (pa_cons (pv 1) pa_nil)) (pa_cons (pe_mt (pv 1) N.cls N.rw r1) (pa_cons (pe_tup (pa_cons (pe_mt (pv 1) N.cls N.en r1) (pa_cons (pe_mt (pv 1) N.cls N.rw r1) pa_nil))) (pa_cons (pe_disp (pps_cons pe_str (pv 1) pps_nil) rfl rfl (by simp) (by decide)) pa_nil)))))))))))))) pss_nil)
    case s1 => exact (ps_if (pt_cmpR op_eq (pv 0) pe_str (by rfl)) (pss_one (ps_ret (pe_lst (pa_cons pe_non (pa_cons (pe_un un_neg pe_int) (pa_cons pe_int (pa_cons (pe_op op_pow pe_int pe_int) (pa_cons pe_str (pa_cons pe_bl (pa_cons pe_bl (pa_cons (pe_lst (pa_cons pe_int pa_nil)) (pa_cons (pe_tup (pa_cons pe_int pa_nil)) (pa_cons pe_dnewK (pa_cons (pe_lst pa_nil) pa_nil)))))))))))))) pss_nil)
    case s2 => exact (ps_if (pt_cmpR op_eq (pv 0) pe_str (by rfl)) (pss_one (ps_ret (pe_lst (pa_cons pe_non (pa_cons pe_int (pa_cons pe_str (pa_cons pe_str (pa_cons pe_str (pa_cons pe_str (pa_cons pe_str (pa_cons pe_str (pa_cons (pe_lst (pa_cons pe_str pa_nil)) (pa_cons (pe_tup (pa_cons pe_str pa_nil)) (pa_cons pe_dnewK (pa_cons pe_bl (pa_cons pe_str pa_nil)))))))))))))))) pss_nil)
    case s3 => exact (ps_set (i := 2) nd rfl (Or.inl rfl) (pe_lst (pa_cons pe_non (pa_cons pe_int (pa_cons pe_str (pa_cons (pe_tup pa_nil) (pa_cons pe_dnewK (pa_cons (pe_lst pa_nil) (pa_cons pe_bl (pa_cons (pe_tup (pa_cons pe_str pa_nil)) (pa_cons (pe_disp (pps_cons pe_str pe_int pps_nil) rfl rfl (by simp) (by decide)) (pa_cons (pe_lst (pa_cons pe_str pa_nil)) (pa_cons (pe_lst (pa_cons pe_str (pa_cons pe_str pa_nil))) (pa_cons (pe_lst (pa_cons pe_str (pa_cons pe_str pa_nil))) pa_nil))))))))))))))
    case s4 => exact (ps_set (i := 2) nd rfl (Or.inl rfl) (pe_op op_cat (pv 2) (pe_lst (pa_cons (pe_lst (pa_cons pe_str (pa_cons pe_str pa_nil))) (pa_cons (pe_lst (pa_cons pe_str (pa_cons pe_str (pa_cons pe_str pa_nil)))) (pa_cons (pe_lst (pa_cons pe_str (pa_cons pe_non pa_nil))) (pa_cons (pe_lst (pa_cons (pe_lst (pa_cons pe_str pa_nil)) pa_nil)) (pa_cons (pe_lst (pa_cons pe_int pa_nil)) (pa_cons (pe_lst (pa_cons pe_str pa_nil)) (pa_cons (pe_lst (pa_cons pe_str pa_nil)) pa_nil))))))))))
    case s5 => exact (ps_ret (pe_op op_cat (pv 2) (pe_lst (pa_cons (pe_lst (pa_cons pe_non (pa_cons pe_str pa_nil))) (pa_cons (pe_lst (pa_cons pe_bl (pa_cons pe_str pa_nil))) (pa_cons (pe_lst (pa_cons pe_str (pa_cons pe_dnewK pa_nil))) (pa_cons (pe_lst (pa_cons (pe_lst pa_nil) (pa_cons pe_str pa_nil))) (pa_cons (pe_lst (pa_cons (pe_tup (pa_cons pe_str pa_nil)) pa_nil)) pa_nil))))))))
    cases wd with
    | pan =>
      refine ⟨_, rfl, rfl, _, rfl, ite2 (fun _ => ?_) fun q => absurd (decide_eq_true rfl) q⟩
      refine mk_out (n := 11) (H0 := H) (Pv := PO K C 2 .pan) po_mon ?_ (by decide) (Same.refl H) fun D vs H' s' nD hD l ps => k D vs H' s' nD hD (by omega) ps
      exact (mkA_cons po_mon (mk_c fun _ => p_non O) (mkA_cons po_mon (mk_c fun _ => p_int O _) (mkA_cons po_mon (mk_c fun _ => p_str O _) (mkA_cons po_mon (mk_l (vs := []) (fun _ _ _ => rfl) (by decide) fun _ _ h => p_lst O h) (mkA_cons po_mon (mk_t (vs := []) (fun _ _ _ => rfl) (by decide) fun _ _ h => p_tup O h) (mkA_cons po_mon (mk_d fun _ _ h => p_dct O h) (mkA_cons po_mon (mk_c fun _ => p_bl O _) (mkA_cons po_mon (fun H1 Qk s1 kk => ⟨_, rfl, (show 1 ≤ sizeLine by decide), fun p np => kk _ _ (sn np) (p_lst O upd_same)⟩) (mkA_cons po_mon (fun H1 Qk s1 kk => ⟨_, rfl, a, dx, gs, rfl, s1 _ _ fr1, fr3, a, jx, rs, rfl, pan.at_.same s1, pan.le, fun D as H2 s2 _ hD _ _ _ => kk _ _ s2 (p_lst O hD)⟩) (mkA_cons po_mon (fun H1 Qk s1 kk => ⟨_, rfl, a, dx, gs, rfl, s1 _ _ fr1, fr2, a, jx, rs, rfl, pan.at_.same s1, fun D H2 s2 _ hD => ⟨_, rfl, a, dx, gs, rfl, (s1.trans s2) _ _ fr1, fr3, a, jx, rs, rfl, pan.at_.same (s1.trans s2), pan.le, fun D2 as H3 s3 _ hD2 _ _ _ => ⟨(show 2 ≤ sizeLine by decide), fun p np => kk _ _ ((s2.trans s3).trans (sn np)) (p_tup O upd_same)⟩⟩⟩) (mkA_cons po_mon (fun H1 Qk s1 kk p np => ⟨_, rfl, upd_same, [(.inr "panel", .ref a)], rfl, (show 1 ≤ 15 by decide), kk _ _ (fun b u e => by rw [upd_ne (ne_of_none e np), upd_ne (ne_of_none e np)]; exact e) (p_dct O upd_same)⟩) mkA_nil)))))))))))
    | cnt =>
      refine ⟨_, rfl, rfl, _, rfl, ite2 (fun q => absurd (of_decide_eq_true q) (by decide +kernel)) fun _ => ?_⟩
      refine ⟨_, rfl, rfl, _, rfl, ite2 (fun _ => ?_) fun q => absurd (decide_eq_true rfl) q⟩
      refine mk_out (n := 11) (H0 := H) (Pv := PO K C 2 .cnt) po_mon ?_ (by decide) (Same.refl H) fun D vs H' s' nD hD l ps => k D vs H' s' nD hD (by omega) ps
      exact (mkA_cons po_mon (mk_c fun _ => c_non) (mkA_cons po_mon (fun H1 Qk s1 kk => ⟨_, rfl, kk _ _ (Same.refl _) (c_int (.inl (by decide)))⟩) (mkA_cons po_mon (mk_c fun _ => c_int (.inr (by decide))) (mkA_cons po_mon (fun H1 Qk s1 kk => ⟨_, _, rfl, rfl, ⟨by decide, by decide, by decide⟩, kk _ _ (Same.refl _) (c_int (.inr (by decide +kernel)))⟩) (mkA_cons po_mon (mk_c fun _ => c_str _) (mkA_cons po_mon (mk_c fun _ => c_bl _) (mkA_cons po_mon (mk_c fun _ => c_bl _) (mkA_cons po_mon (mk_l (vs := [.int 0]) (fun _ _ _ => rfl) (by decide) fun _ _ h => c_lst h) (mkA_cons po_mon (mk_t (vs := [.int 0]) (fun _ _ _ => rfl) (by decide) fun _ _ h => c_tup h) (mkA_cons po_mon (mk_d fun _ _ h => c_dct h) (mkA_cons po_mon (mk_l (vs := []) (fun _ _ _ => rfl) (by decide) fun _ _ h => c_lst h) mkA_nil)))))))))))
    | ent =>
      refine ⟨_, rfl, rfl, _, rfl, ite2 (fun q => absurd (of_decide_eq_true q) (by decide +kernel)) fun _ => ?_⟩
      refine ⟨_, rfl, rfl, _, rfl, ite2 (fun q => absurd (of_decide_eq_true q) (by decide +kernel)) fun _ => ?_⟩
      refine ⟨_, rfl, rfl, _, rfl, ite2 (fun _ => ?_) fun q => absurd (decide_eq_true rfl) q⟩
      refine mk_out (n := 13) (H0 := H) (Pv := PO K C 2 .ent) po_mon ?_ (by decide) (Same.refl H) fun D vs H' s' nD hD l ps => k D vs H' s' nD hD (by omega) ps
      exact (mkA_cons po_mon (mk_c fun _ => n_of .non rfl rfl) (mkA_cons po_mon (mk_c fun _ => n_of (.int 5) rfl rfl) (mkA_cons po_mon (mk_c fun _ => n_of (.str "") (by decide +kernel) rfl) (mkA_cons po_mon (mk_c fun _ => n_of (.str "ALE") (by decide +kernel) rfl) (mkA_cons po_mon (mk_c fun _ => n_of (.str "alee") (by decide +kernel) rfl) (mkA_cons po_mon (mk_c fun _ => n_of (.str "al") (by decide +kernel) rfl) (mkA_cons po_mon (mk_c fun _ => n_of (.str "abcdefghi") (by decide +kernel) rfl) (mkA_cons po_mon (mk_c fun _ => n_of (.str "ale\n") (by decide +kernel) rfl) (mkA_cons po_mon (mk_l (vs := [.str "ale"]) (fun _ _ _ => rfl) (by decide) fun _ _ h => n_of (.lst h) rfl rfl) (mkA_cons po_mon (mk_t (vs := [.str "ale"]) (fun _ _ _ => rfl) (by decide) fun _ _ h => n_of (.tup h) rfl rfl) (mkA_cons po_mon (mk_d fun _ _ h => n_of (.dK h) rfl rfl) (mkA_cons po_mon (mk_c fun _ => n_of (.bl true) rfl rfl) (mkA_cons po_mon (mk_c fun _ => n_of (.str "zz") (by decide +kernel) rfl) mkA_nil)))))))))))))
    | fld =>
      refine ⟨_, rfl, rfl, _, rfl, ite2 (fun q => absurd (of_decide_eq_true q) (by decide +kernel)) fun _ => ?_⟩
      refine ⟨_, rfl, rfl, _, rfl, ite2 (fun q => absurd (of_decide_eq_true q) (by decide +kernel)) fun _ => ?_⟩
      refine ⟨_, rfl, rfl, _, rfl, ite2 (fun q => absurd (of_decide_eq_true q) (by decide +kernel)) fun _ => ?_⟩
      dsimp only [tNext, tSeq, tAsg]
      refine mk_out (n := 12) (H0 := H) (Pv := PO K C 2 .fld) po_mon ?_ (by decide) (Same.refl H) fun D1 v1 H1 s1 nD1 hD1 le1 p1 => ?_
      · exact (mkA_cons po_mon (mk_c fun _ => f_no (.base .non) (by decide +kernel) rfl) (mkA_cons po_mon (mk_c fun _ => f_no (.base (.int 5)) (by decide +kernel) rfl) (mkA_cons po_mon (mk_c fun _ => f_no (.base (.str "ale")) (by decide +kernel) rfl) (mkA_cons po_mon (mk_t (vs := []) (fun _ _ _ => rfl) (by decide) fun _ _ h => f_no (.base (.tup h)) (by decide +kernel) rfl) (mkA_cons po_mon (mk_d fun _ _ h => f_no (.base (.dK h)) (by decide +kernel) rfl) (mkA_cons po_mon (mk_l (vs := []) (fun _ _ _ => rfl) (by decide) fun _ _ h => f_str [] h (by decide) (by decide +kernel)) (mkA_cons po_mon (mk_c fun _ => f_no (.base (.bl true)) (by decide +kernel) rfl) (mkA_cons po_mon (mk_t (vs := [.str "ale"]) (fun _ _ _ => rfl) (by decide) fun _ _ h => f_no (.base (.tup h)) (by decide +kernel) rfl) (mkA_cons po_mon (fun H1 Qk s1 kk p np => ⟨upd_same, [(.inr "ale", .int 1)], rfl, (show 1 ≤ 15 by decide), kk _ _ (fun b u e => by rw [upd_ne (ne_of_none e np), upd_ne (ne_of_none e np)]; exact e) (f_no (.base (.dK upd_same)) (by decide +kernel) rfl)⟩) (mkA_cons po_mon (mk_l (vs := [.str "zz"]) (fun _ _ _ => rfl) (by decide) fun _ _ h => f_odd (os := [some "zz"]) h (by decide) (.cons (.str "zz") .nil) (by decide +kernel)) (mkA_cons po_mon (mk_l (vs := [.str "ale", .str "zz"]) (fun _ _ _ => rfl) (by decide) fun _ _ h => f_odd (os := [some "ale", some "zz"]) h (by decide) (.cons (.str "ale") (.cons (.str "zz") .nil)) (by decide +kernel)) (mkA_cons po_mon (mk_l (vs := [.str "bun", .str "ale"]) (fun _ _ _ => rfl) (by decide) fun _ _ h => f_str ["bun", "ale"] h (by decide) (by decide +kernel)) mkA_nil))))))))))))
      refine ⟨_, rfl, mk_out (n := 7) (H0 := H) (Pv := PO K C 2 .fld) po_mon ?_ (by decide) s1 fun D2 v2 H2 s2 nD2 hD2 le2 p2 => ?_⟩
      · exact (mkA_cons po_mon (mk_l (vs := [.str "ale", .str "ale"]) (fun _ _ _ => rfl) (by decide) fun _ _ h => f_str ["ale", "ale"] h (by decide) (by decide +kernel)) (mkA_cons po_mon (mk_l (vs := [.str "ale", .str "bun", .str "bun"]) (fun _ _ _ => rfl) (by decide) fun _ _ h => f_str ["ale", "bun", "bun"] h (by decide) (by decide +kernel)) (mkA_cons po_mon (mk_l (vs := [.str "ale", .non]) (fun _ _ _ => rfl) (by decide) fun _ _ h => f_odd (os := [some "ale", none]) h (by decide) (.cons (.str "ale") (.cons .non .nil)) (by decide +kernel)) (mkA_cons po_mon (fun H1 Qk s1 kk => ⟨(show 1 ≤ sizeLine by decide), fun p np => ⟨(show 1 ≤ sizeLine by decide), fun q nq => kk _ _ ((sn np).trans (sn nq)) (f_odd (os := [none]) upd_same (show 1 ≤ 60 by decide) (.cons (.lst ((sn nq) _ _ upd_same)) .nil) rfl)⟩⟩) (mkA_cons po_mon (mk_l (vs := [.int 5]) (fun _ _ _ => rfl) (by decide) fun _ _ h => f_odd (os := [none]) h (by decide) (.cons (.int 5) .nil) (by decide +kernel)) (mkA_cons po_mon (mk_l (vs := [.str "ALE"]) (fun _ _ _ => rfl) (by decide) fun _ _ h => f_odd (os := [some "ALE"]) h (by decide) (.cons (.str "ALE") .nil) (by decide +kernel)) (mkA_cons po_mon (mk_l (vs := [.str "ale\n"]) (fun _ _ _ => rfl) (by decide) fun _ _ h => f_odd (os := [some "ale\n"]) h (by decide) (.cons (.str "ale\n") .nil) (by decide +kernel)) mkA_nil)))))))
      refine ⟨D1, D2, _, _, rfl, rfl, s2 _ _ hD1, hD2, Nat.le_of_lt (small1000 (by omega)), fun D3 nD3 => ?_⟩
      have s13 := (s1.trans s2).trans (sn nD3 (o := .lst (v1 ++ v2)))
      have hD3 : upd H2 D3 (.lst (v1 ++ v2)) D3 = some (.lst (v1 ++ v2)) := upd_same
      have p3 : ∀ v ∈ v1 ++ v2, PO K C 2 .fld (upd H2 D3 (.lst (v1 ++ v2))) v := fun v hv => by
        rcases List.mem_append.mp hv with h | h
        · exact po_mon _ _ _ (s2.trans (sn nD3)) (p1 v h)
        · exact po_mon _ _ _ (sn nD3) (p2 v h)
      generalize upd H2 D3 (.lst (v1 ++ v2)) = H3 at s13 hD3 p3 ⊢
      refine ⟨_, rfl, mk_out (n := 5) (H0 := H) (Pv := PO K C 2 .fld) po_mon ?_ (by decide) s13 fun D4 v4 H4 s4 nD4 hD4 le4 p4 => ?_⟩
      · exact (mkA_cons po_mon (mk_l (vs := [.non, .str "ale"]) (fun _ _ _ => rfl) (by decide) fun _ _ h => f_odd (os := [none, some "ale"]) h (by decide) (.cons .non (.cons (.str "ale") .nil)) (by decide +kernel)) (mkA_cons po_mon (mk_l (vs := [.bl true, .str "ale"]) (fun _ _ _ => rfl) (by decide) fun _ _ h => f_odd (os := [none, some "ale"]) h (by decide) (.cons (.bl true) (.cons (.str "ale") .nil)) (by decide +kernel)) (mkA_cons po_mon (fun H1 Qk s1 kk p np => ⟨(show 2 ≤ sizeLine by decide), fun q nq => kk _ _ ((sn np).trans (sn nq)) (f_odd (os := [some "ale", none]) upd_same (show 2 ≤ 60 by decide) (.cons (.str _) (.cons (.dK ((sn nq) _ _ upd_same)) .nil)) (by decide +kernel))⟩) (mkA_cons po_mon (fun H1 Qk s1 kk => ⟨(show 0 ≤ sizeLine by decide), fun p np => ⟨(show 2 ≤ sizeLine by decide), fun q nq => kk _ _ ((sn np).trans (sn nq)) (f_odd (os := [none, some "ale"]) upd_same (show 2 ≤ 60 by decide) (.cons (.lst ((sn nq) _ _ upd_same)) (.cons (.str _) .nil)) (by decide +kernel))⟩⟩) (mkA_cons po_mon (fun H1 Qk s1 kk => ⟨(show 1 ≤ sizeLine by decide), fun p np => ⟨(show 1 ≤ sizeLine by decide), fun q nq => kk _ _ ((sn np).trans (sn nq)) (f_odd (os := [none]) upd_same (show 1 ≤ 60 by decide) (.cons (.tup ((sn nq) _ _ upd_same)) .nil) rfl)⟩⟩) mkA_nil)))))
      refine ⟨D3, D4, _, _, rfl, rfl, s4 _ _ hD3, hD4, Nat.le_of_lt (small1000 (by rw [List.length_append]; omega)), fun D5 nD5 => ?_⟩
      refine k D5 _ _ ((s13.trans s4).trans (sn nD5)) ((s13.trans s4).free nD5) upd_same (by rw [List.length_append, List.length_append]; omega) fun v hv => ?_
      rcases List.mem_append.mp hv with h | h
      · exact po_mon _ _ _ (s4.trans (sn nD5)) (p3 v h)
      · exact po_mon _ _ _ (sn nD5) (p4 v h)
end
end K08

set_option maxHeartbeats 8000000
namespace K08
open PySem PySem.Spec PyProof.Rows L2 G1
def spPurses (K : PySem.W.Frag) : Sp := fun vs H Q _ => ∃ (a : Addr) (few : Int) (ns : List Int), vs = [.ref a, .int few] ∧ SqL K H a (ns.map V.int) ∧ few ≤ 100 ∧
  ∀ (D : Addr) (ps : List Addr) (H' : Hp), H D = none → H' D = some (.lst (ps.map V.ref)) → (∀ p ∈ ps, Purse H' p 0 ∧ p ≠ D) → ps.length ≤ 100 → Same H H' → Q (.ref D) H'
section
variable {P : Program} {w : World} {K : PySem.W.Frag} {mg : Str → Option Value} {base : Heap}
end
end K08

set_option maxHeartbeats 16000000
namespace K08
open PySem PySem.Spec PyProof.Rows L2 G1
def jac : List Str := ["ale", "cob"]
def jwords : List (List Str) := (List.range 8).map fun d => (dW d).map Wd.str
def spDoors : Sp := fun vs H Q _ => vs = [] ∧ ∀ (D : Addr) (ds : List Addr) (H' : Hp), Same H H' → H D = none → H' D = some (.lst (ds.map V.ref)) → RowsAt H' ds jwords → Q (.ref D) H'
def spGood : Sp := fun vs H Q _ => ∃ (w : Wd) (a : Addr), vs = [.str w.str, .ref a] ∧ ∀ (f : Addr) (H' : Hp), Same H H' → H f = none → H' f = some (.lst (jac.map V.str)) → Q (gw a f 1 "bun" w) H'
def spCell (K : PySem.W.Frag) : Sp := fun vs H Q _ => ∃ (a : Addr) (i : Int) (ns : List Int), vs = [.ref a, .int i] ∧ SqL K H a (ns.map V.int) ∧ 0 ≤ i ∧ i ≤ 100 ∧ ∀ (m : Int) (H' : Hp), Same H H' → Q (.int m) H'
section
variable {P : Program} {w : World} {K : PySem.W.Frag} {mg : Str → Option Value} {base : Heap} {C : Addr}
abbrev sDoors : Stmt := top 44
abbrev nDoors : List Str := ["_law_found"]
theorem scDoors : FnScope nDoors [] (defScope sDoors) := ⟨rfl, rfl, rfl, by decide +kernel, rfl, by decide +kernel, by decide +kernel⟩
theorem ok_doors {f : Addr} {fd : FuncData} (F : FnP K "_law_doors" sDoors f fd) : FnOk P w K mg base CX0 1 f fd [] spDoors := by
  refine okN F scDoors (fun vs H Q E h => ?_) (fun cdv A outer s H vs Q E hr h => ?_)
  · obtain ⟨rfl, _⟩ := h
    rfl
  · obtain ⟨rfl, k⟩ := h
    have nd := scDoors.nd
    refine ⟨_, pss_cons (ps_set (i := 0) nd rfl (Or.inl rfl) (pe_lst (pa_cons (pe_lst (pa_cons pe_str pa_nil)) (pa_cons (pe_lst (pa_cons pe_str pa_nil)) (pa_cons (pe_lst (pa_cons pe_str pa_nil))
        (pa_cons (pe_lst (pa_cons pe_str (pa_cons pe_str pa_nil))) (pa_cons (pe_lst (pa_cons pe_str (pa_cons pe_str pa_nil))) (pa_cons (pe_lst (pa_cons pe_str (pa_cons pe_str (pa_cons pe_str pa_nil)))) pa_nil))))))))
      (pss_one (ps_ret (pe_op op_cat (pv 0) (pe_lst (pa_cons (pe_lst (pa_cons pe_str (pa_cons pe_str (pa_cons pe_str pa_nil)))) (pa_cons (pe_lst (pa_cons pe_str (pa_cons pe_str (pa_cons pe_str pa_nil)))) pa_nil)))))), ?_⟩
    have e1 : 1 ≤ sizeLine := by decide
    have e2 : 2 ≤ sizeLine := by decide
    have e3 : 3 ≤ sizeLine := by decide
    have e6 : 6 ≤ sizeLine := by decide
    refine ⟨e1, fun l1 n1 => ⟨e1, fun l2 n2 => ⟨e1, fun l3 n3 => ⟨e2, fun l4 n4 => ⟨e2, fun l5 n5 => ⟨e3, fun l6 n6 => ⟨e6, fun L1 m1 => ?_⟩⟩⟩⟩⟩⟩⟩
    have a1 := sn (o := .lst (([Wd.pan].map Wd.str).map V.str)) n1
    have a2 := sn (o := .lst (([Wd.pan].map Wd.str).map V.str)) n2
    have a3 := sn (o := .lst (([Wd.pan].map Wd.str).map V.str)) n3
    have a4 := sn (o := .lst (([Wd.pan, .fld].map Wd.str).map V.str)) n4
    have a5 := sn (o := .lst (([Wd.pan, .ent].map Wd.str).map V.str)) n5
    have a6 := sn (o := .lst (([Wd.pan, .cnt, .fld].map Wd.str).map V.str)) n6
    have b1 := sn (o := .lst ([l1, l2, l3, l4, l5, l6].map V.ref)) m1
    have t6 := b1
    have t5 := a6.trans t6
    have t4 := a5.trans t5
    have t3 := a4.trans t4
    have t2 := a3.trans t3
    have t1 := a2.trans t2
    have t0 := a1.trans t1
    have r6 := RowsAt.cons (r := [Wd.pan].map Wd.str) (t1 _ _ upd_same) (.cons (r := [Wd.pan].map Wd.str) (t2 _ _ upd_same) (.cons (r := [Wd.pan].map Wd.str) (t3 _ _ upd_same) (.cons (r := [Wd.pan, .fld].map Wd.str) (t4 _ _ upd_same) (.cons (r := [Wd.pan, .ent].map Wd.str) (t5 _ _ upd_same) (.cons (r := [Wd.pan, .cnt, .fld].map Wd.str) (t6 _ _ upd_same) .nil)))))
    have hL1 := upd_same (a := L1) (o := HO.lst ([l1, l2, l3, l4, l5, l6].map V.ref)) (H := upd (upd (upd (upd (upd (upd H l1 (.lst (([Wd.pan].map Wd.str).map V.str))) l2 (.lst (([Wd.pan].map Wd.str).map V.str))) l3 (.lst (([Wd.pan].map Wd.str).map V.str))) l4 (.lst (([Wd.pan, .fld].map Wd.str).map V.str))) l5 (.lst (([Wd.pan, .ent].map Wd.str).map V.str))) l6 (.lst (([Wd.pan, .cnt, .fld].map Wd.str).map V.str)))
    refine ⟨_, rfl, e3, fun l7 n7 => ⟨e3, fun l8 n8 => ⟨e2, fun L2 m2 => ?_⟩⟩⟩
    have a7 := sn (o := .lst (([Wd.pan, .fld, .ent].map Wd.str).map V.str)) n7
    have a8 := sn (o := .lst (([Wd.pan, .cnt, .ent].map Wd.str).map V.str)) n8
    have b2 := sn (o := .lst ([l7, l8].map V.ref)) m2
    have u7 := a8.trans b2
    have u0 := a7.trans u7
    refine ⟨L1, L2, [l1, l2, l3, l4, l5, l6].map V.ref, [l7, l8].map V.ref, rfl, rfl, u0 _ _ hL1, upd_same, Nat.le_of_lt (small1000 (show 8 ≤ 1000 by decide)), fun D nD => ?_⟩
    refine k D [l1, l2, l3, l4, l5, l6, l7, l8] _ ((t0.trans u0).trans (sn nD)) ((t0.trans u0).free nD) upd_same ?_
    have r8 := ((r6.same u0).app (.cons (r := [Wd.pan, .fld, .ent].map Wd.str) (u7 _ _ upd_same) (.cons (r := [Wd.pan, .cnt, .ent].map Wd.str) (b2 _ _ upd_same) .nil))).same (sn nD (o := .lst ([l1, l2, l3, l4, l5, l6, l7, l8].map V.ref)))
    exact r8
abbrev sGood : Stmt := top 46
abbrev nGood : List Str := ["_law_word", "_law_made"]
theorem scGood : FnScope nGood ["_law_word", "_law_made"] (defScope sGood) := ⟨rfl, rfl, rfl, by decide +kernel, rfl, by decide +kernel, by decide +kernel⟩
theorem ok_good {f : Addr} {fd : FuncData} (F : FnP K "_law_good" sGood f fd) (ld : mg "dict" = none) : FnOk P w K mg base CX0 1 f fd ["_law_word", "_law_made"] spGood := by
  refine okN F scGood (fun vs H Q E h => ?_) (fun cdv A outer s H vs Q E hr h => ?_)
  · obtain ⟨_, _, rfl, _⟩ := h
    rfl
  · obtain ⟨wd, a, rfl, k⟩ := h
    have hun := hr.un
    have hu1 : (A.deeper (envOfC "_law_good" (defScope sGood) s.heap.objs.size f cdv)).units + 1 < cLine := by omega
    refine ⟨_, pss_one (ps_ret (pe_dget hu1 (pe_callTy (call_dictP rfl) (by rfl) ld (by decide +kernel) (pa_cons (pe_lst (pa_cons (pe_tup (pa_cons pe_str (pa_cons (pv 1) pa_nil))) (pa_cons (pe_tup (pa_cons pe_str (pa_cons pe_int pa_nil)))
        (pa_cons (pe_tup (pa_cons pe_str (pa_cons (pe_lst (pa_cons pe_str (pa_cons pe_str pa_nil))) pa_nil))) (pa_cons (pe_tup (pa_cons pe_str (pa_cons pe_str pa_nil))) pa_nil))))) pa_nil)) (pv 0) (fun _ _ => rfl))), ?_⟩
    have e2 : 2 ≤ sizeLine := by decide
    have e4 : 4 ≤ sizeLine := by decide
    refine ⟨_, rfl, e2, fun t1 n1 => ⟨e2, fun t2 n2 => ⟨e2, fun g ng => ⟨e2, fun t3 n3 => ⟨e2, fun t4 n4 => ⟨e4, fun L nL => ?_⟩⟩⟩⟩⟩⟩
    have a1 := sn (o := .tup [.str "panel", .ref a]) n1
    have a2 := sn (o := .tup [.str "count", .int 1]) n2
    have a3 := sn (o := .lst (jac.map V.str)) ng
    have a4 := sn (o := .tup [.str "field", .ref g]) n3
    have a5 := sn (o := .tup [.str "entry", .str "bun"]) n4
    have a6 := sn (o := .lst ([t1, t2, t3, t4].map V.ref)) nL
    have u5 := a6
    have u4 := a5.trans u5
    have u3 := a4.trans u4
    have u2 := a3.trans u3
    have u1 := a2.trans u2
    have u0 := a1.trans u1
    have h1 := u1 _ _ (upd_same (a := t1))
    have h2 := u2 _ _ (upd_same (a := t2))
    have hg := u3 _ _ (upd_same (a := g))
    have h3 := u4 _ _ (upd_same (a := t3))
    have h4 := u5 _ _ (upd_same (a := t4))
    have gN : H g = none := (a1.trans a2).free ng
    refine ⟨L, [t1, t2, t3, t4], [(.inr "panel", .ref a), (.inr "count", .int 1), (.inr "field", .ref g), (.inr "entry", .str "bun")], rfl, SqL.of upd_same, .cons (SqT.of h1) (.cons (SqT.of h2) (.cons (SqT.of h3) (.cons (SqT.of h4) .nil))), fun d nd2 => ?_⟩
    have u6 := u0.trans (sn nd2 (o := .dK (mergeK [] [(.inr "panel", .ref a), (.inr "count", .int 1), (.inr "field", .ref g), (.inr "entry", .str "bun")])))
    have hg6 := (sn nd2 (o := .dK (mergeK [] [(.inr "panel", .ref a), (.inr "count", .int 1), (.inr "field", .ref g), (.inr "entry", .str "bun")]))) _ _ hg
    refine ⟨_, rfl, d, gw a g 1 "bun" wd, rfl, ?_, k g _ u6 gN hg6⟩
    have q := DGet.k (k := .inr wd.str) (upd_same (a := d) (o := HO.dK (mergeK [] [(.inr "panel", V.ref a), (.inr "count", .int 1), (.inr "field", .ref g), (.inr "entry", .str "bun")])) (H := upd (upd (upd (upd (upd (upd H t1 (.tup [.str "panel", .ref a])) t2 (.tup [.str "count", .int 1])) g (.lst (jac.map V.str))) t3 (.tup [.str "field", .ref g])) t4 (.tup [.str "entry", .str "bun"])) L (.lst ([t1, t2, t3, t4].map V.ref))))
    have e : valV (mergeK [] [(.inr "panel", V.ref a), (.inr "count", .int 1), (.inr "field", .ref g), (.inr "entry", .str "bun")]) (.inr wd.str) = some (gw a g 1 "bun" wd) := by
      cases wd <;> rfl
    rw [e] at q
    exact q
abbrev sCell : Stmt := top 49
abbrev nCell : List Str := ["_law_script", "_law_spot"]
theorem scCell : FnScope nCell ["_law_script", "_law_spot"] (defScope sCell) := ⟨rfl, rfl, rfl, by decide +kernel, rfl, by decide +kernel, by decide +kernel⟩
theorem ok_cell {f : Addr} {fd : FuncData} (F : FnP K "_law_cell" sCell f fd) (L : Lib K mg) : FnOk P w K mg base CX0 1 f fd ["_law_script", "_law_spot"] (spCell K) := by
  refine okN F scCell (fun vs H Q E h => ?_) (fun cdv A outer s H vs Q E hr h => ?_)
  · obtain ⟨_, _, _, rfl, _⟩ := h
    rfl
  · obtain ⟨a, i, ns, rfl, hS, i0, i1, k⟩ := h
    refine ⟨_, pss_one (ps_ret (pe_op op_add (pe_callB (cr_sum rfl) (by rfl) L.sum (by decide +kernel) (pa_cons (pe_slice sl_list (pv 0) (po_some (pv 1)) (po_some (pe_op op_add (pv 1) pe_int))) pa_nil)) (pe_op op_mul pe_int (pv 1)))), ?_⟩
    refine ⟨_, rfl, _, rfl, _, rfl, _, rfl, _, _, rfl, rfl, _, rfl, a, _, rfl, hS, fun l nl => ?_⟩
    obtain ⟨zs, ez⟩ := cut_ints ns (some i) (some (i + 1))
    refine ⟨l, zs, rfl, SqL.of (upd_same.trans (congrArg (fun x => some (HO.lst x)) ez)), ?_⟩
    exact ⟨_, rfl, _, _, rfl, rfl, .inl ⟨by decide, by decide⟩, _, _, rfl, rfl, k _ _ (sn nl)⟩
end
end K08

set_option maxHeartbeats 16000000
namespace K08
open PySem PySem.Spec PyProof.Rows L2 G1
theorem lists_same {K : PySem.W.Frag} {H : Hp} {n : Nat} {l c : Addr} {xs : List V} (h : H l = some (.lst xs)) (g : H c = some (.lst xs)) (hx : xs.all selfV = true) : Lists2 K H n (.ref l) (.ref c) true := by
  refine ⟨l, c, xs, xs, rfl, rfl, SqL.of h, SqL.of g, .inr ⟨rfl, fun _ => true, fun i x y e1 e2 => ?_, (List.all_eq_true.mpr fun _ _ => rfl).symm⟩⟩
  rw [e1] at e2
  cases e2
  exact self_eqW (List.all_eq_true.mp hx x (List.mem_of_getElem? e1))
theorem cutV_tail {xs : List V} {n : Nat} (h : n ≤ xs.length) : cutV xs (some (n : Int)) none = xs.drop n := by
  have e : HT.sIx xs.length 0 (some (n : Int)) = n := by
    rw [HT.sIx_nat]
    omega
  have e2 : HT.sIx xs.length xs.length none = xs.length := rfl
  unfold cutV
  rw [e, e2]
  exact List.take_of_length_le (by rw [List.length_drop]; exact Nat.le_refl _)
theorem dW_fld : ∀ d : Fin 8, ∀ i : Fin 3, (dW d)[(i : Nat)]? = some .fld → ∀ u ∈ (dW d).take i, u ≠ .fld := by decide
theorem dW_len : ∀ d : Fin 8, 1 ≤ (dW d).length ∧ (dW d).length ≤ 3 := by decide
theorem gw_ne {a f g : Addr} {i : Nat} {z : Str} {w : Wd} (h : w ≠ .fld) : gw a f i z w = gw a g i z w := by
  cases w with
  | fld => exact absurd rfl h
  | _ => rfl
theorem flat_rep {n : Nat} {v : V} : (List.replicate n [v]).flatten = List.replicate n v := by
  induction n with
  | zero => rfl
  | succ n ih => rw [List.replicate_succ, List.flatten_cons, ih, List.replicate_succ]; rfl
def spDR (C : Addr) : Sp := fun vs H Q _ => ∃ (d : Nat) (W a : Addr) (rs : List (List Str)), vs = [.int (d : Int), .ref W, .ref a] ∧ d < 8 ∧ H W = some (.lst (((dW d).map Wd.str).map V.str)) ∧ PanF H C a jx rs ∧ Good jx rs ∧ rs.length = 2 ∧ ∀ H', Same H H' → Q (.bl true) H'
section
variable {P : Program} {w : World} {K : PySem.W.Frag} {mg : Str → Option Value} {base : Heap} {C : Addr}
abbrev sDR : Stmt := top 47
abbrev nDR : List Str := ["_law_door", "_law_words", "_law_made", "_law_good_here", "_law_spot", "_law_count", "_law_odd", "_law_behind", "_law_word"]
theorem scDR : FnScope nDR ["_law_door", "_law_words", "_law_made"] (defScope sDR) := ⟨rfl, rfl, rfl, by decide +kernel, rfl, by decide +kernel, by decide +kernel⟩
theorem ok_doorR {f : Addr} {fd : FuncData} (F : FnP K "_law_door_right" sDR f fd) (L : Lib K mg) (DG : Df P w K mg base 1 "_law_good" sGood ["_law_word", "_law_made"] spGood) (DO : Df P w K mg base 2 "_law_odds" sOdds ["_law_word", "_law_made"] (spOdds K C))
    (DC : Df P w K mg base 8 "_law_caught" sCaught ["_law_door", "_law_given"] (spCaught K C)) : FnOk P w K mg base CX0 9 f fd ["_law_door", "_law_words", "_law_made"] (spDR C) := by
  refine okN F scDR (fun vs H Q E h => ?_) (fun cdv A outer s H vs Q E hr h => ?_)
  · obtain ⟨_, _, _, _, rfl, _⟩ := h
    rfl
  · obtain ⟨d, W, a, rs, rfl, hd, hW, pan, gd, l2, k⟩ := h
    have hun := hr.un
    have nd := scDR.nd
    have hu1 : (A.deeper (envOfC "_law_door_right" (defScope sDR) s.heap.objs.size f cdv)).units + (0 + 1) < cLine := by omega
    have r1 : Room 1 (A.deeper (envOfC "_law_door_right" (defScope sDR) s.heap.objs.size f cdv)) := hr.mono (by decide)
    have r2 : Room 2 (A.deeper (envOfC "_law_door_right" (defScope sDR) s.heap.objs.size f cdv)) := hr.mono (by decide)
    have d1 : 1 ≤ (dW d).length := (dW_len ⟨d, hd⟩).1
    have d3 : (dW d).length ≤ 3 := (dW_len ⟨d, hd⟩).2
    refine' ⟨_, pss_cons ?s0 (pss_cons ?s1 (pss_one ?s2)), ?_⟩
    case s0 => exact (ps_setLc (i := 3) (own := [("_law_word", 8)]) (g := gName 8) (tt := tYes) (te := tCall spGood [] E0 (tCons (tVar 8) (tCons (tVar 2) tNil))) rfl nd rfl rfl (sw_true rfl rfl rfl rfl) (pi_list (pv 1))
        (blkOk_by (N := nDR) (sc := defScope sDR) (by decide +kernel)) (fun _ _ _ _ _ => pg_name (i := 8) scDR.nd rfl (Or.inl rfl)) (fun _ _ _ _ _ => pts_nil) (fun _ _ _ _ _ => pe_df DG r1 (by rfl) (pa_cons (pv 8) (pa_cons (pv 2) pa_nil))))
    case s1 => exact (ps_for PassesOwn.never rfl (pi_range1 (by rfl) L.range (pa_cons (pe_callB call_len_seq (by rfl) L.len PySem.boot_len (pa_cons (pv 1) pa_nil)) pa_nil)) (pg_name (i := 4) nd rfl (Or.inl rfl))
        (pss_cons (ps_set (i := 5) nd rfl (Or.inl rfl) (pe_op op_sub (pe_op op_sub (pe_callB call_len_seq (by rfl) L.len PySem.boot_len (pa_cons (pv 1) pa_nil)) (pv 4)) pe_int))
        (pss_one (ps_for PassesOwn.never rfl (pi_list (pe_df DO r2 (by rfl) (pa_cons (pe_ix ix_list (pv 1) (pv 4) (fun _ _ => rfl)) (pa_cons (pv 2) pa_nil)))) (pg_name (i := 6) nd rfl (Or.inl rfl))
          (pss_one (ps_for PassesOwn.never rfl (pi_tup (pe_tup (pa_cons (pe_slice sl_list (pv 3) (po_some (pe_op op_add (pv 4) pe_int)) po_none) (pa_cons (pe_op op_rep (pe_lst (pa_cons pe_non pa_nil)) (pv 5)) (pa_cons (pe_op op_rep (pe_lst (pa_cons (pv 6) pa_nil)) (pv 5)) pa_nil))))) (pg_name (i := 7) nd rfl (Or.inl rfl))
            (pss_one (ps_if (pt_cmpR (op_neW (n := 0) hu1) (pe_df DC hr (by rfl) (pa_cons (pv 0) (pa_cons (pe_op op_cat (pe_op op_cat (pe_slice sl_list (pv 3) po_none (po_some (pv 4))) (pe_lst (pa_cons (pv 6) pa_nil))) (pv 7)) pa_nil)))
              (pe_lst (pa_cons (pe_ix ix_list (pv 1) (pv 4) (fun _ _ => rfl)) (pa_cons (pv 6) pa_nil))) (nomark _)) (pss_one ps_never) pss_nil))))))))
    case s2 => exact (ps_ret (pe_cmpR op_isN (pe_df DC hr (by rfl) (pa_cons (pv 0) (pa_cons (pv 3) pa_nil))) pe_non (nomark _)))
    -- what is right
    refine ⟨_, rfl, W, rfl, ⟨_, SqL.of hW⟩, fun G nG => lc_list (K := K) (a := W) (xs := ((dW d).map Wd.str).map V.str) (fun i H' => ∃ f : Addr, H' G = some (.lst (((dW d).take i).map (gw a f 1 "bun"))) ∧ (1 ≤ i → H' f = some (.lst (jac.map V.str)) ∧ f ≠ G) ∧ Same H H')
      ⟨G, upd_same, (fun q => absurd q (by decide)), sn nG⟩ (fun i H' _ h => by obtain ⟨_, _, _, h⟩ := h; exact SqL.of (h _ _ hW)) ?_ ?_⟩
    · rintro i y H1 hi ⟨f1, q1, q2, q3⟩
      rw [List.getElem?_map, List.getElem?_map] at hi
      obtain ⟨_, hx, rfl⟩ := Option.map_eq_some_iff.mp hi
      obtain ⟨wd, hw, rfl⟩ := Option.map_eq_some_iff.mp hx
      have li := (List.getElem?_eq_some_iff.mp hw).1
      refine ⟨rfl, _, rfl, _, rfl, wd, a, rfl, fun g H2 s2 ng hg => ⟨_, s2 _ _ q1, small1000 (by rw [List.length_map, List.length_take]; omega), ?_⟩⟩
      have gG : g ≠ G := Ne.symm (ne_of_none q1 ng)
      have stp : ∀ f2 : Addr, (H2 f2 = some (.lst (jac.map V.str)) ∧ f2 ≠ G) → ((dW d).take i).map (gw a f1 1 "bun") = ((dW d).take i).map (gw a f2 1 "bun") → gw a g 1 "bun" wd = gw a f2 1 "bun" wd →
          ∃ f : Addr, upd H2 G (.lst (((dW d).take i).map (gw a f1 1 "bun") ++ [gw a g 1 "bun" wd])) G = some (.lst (((dW d).take (i + 1)).map (gw a f 1 "bun"))) ∧ (1 ≤ i + 1 → upd H2 G (.lst (((dW d).take i).map (gw a f1 1 "bun") ++ [gw a g 1 "bun" wd])) f = some (.lst (jac.map V.str)) ∧ f ≠ G) ∧ Same H (upd H2 G (.lst (((dW d).take i).map (gw a f1 1 "bun") ++ [gw a g 1 "bun" wd]))) := fun f2 hf e1 e2 => by
        refine ⟨f2, ?_, fun _ => ⟨by rw [upd_ne hf.2]; exact hf.1, hf.2⟩, fun b o e => ?_⟩
        · rw [upd_same, List.take_succ, hw, List.map_append, e1, e2]
          rfl
        · rw [upd_ne (ne_of_none e nG)]
          exact s2 _ _ (q3 _ _ e)
      by_cases e : wd = .fld
      · refine stp g ⟨hg, gG⟩ (List.map_congr_left fun u hu => gw_ne ?_) rfl
        rw [e] at hw
        exact dW_fld ⟨d, hd⟩ ⟨i, by omega⟩ hw u hu
      · by_cases e0 : i = 0
        · subst e0
          exact stp g ⟨hg, gG⟩ rfl rfl
        · obtain ⟨h1, h2⟩ := q2 (by omega)
          exact stp f1 ⟨s2 _ _ h1, h2⟩ rfl (gw_ne e)
    rintro H1 ⟨f1, hG, q2, s1⟩
    rw [List.length_map, List.length_map, List.take_length] at hG
    rw [List.length_map, List.length_map] at q2
    obtain ⟨hf, _⟩ := q2 (by omega)
    clear q2
    have hfa : FieldAt H1 f1 jx jac := ⟨hf, by decide +kernel, by decide, by decide⟩
    have ga : GA H1 C a f1 1 "bun" jx jac rs := ⟨pan.same s1, gd, hfa, by decide, by omega⟩
    have hW1 := s1 _ _ hW
    have lW : (((dW d).map Wd.str).map V.str).length = (dW d).length := by rw [List.length_map, List.length_map]
    refine ⟨_, rfl, W, _, rfl, .inl (SqL.of hW1), ?_⟩
    rw [lW]
    refine ⟨((dW d).length : Int), rfl, by omega, by omega, for_range (lo := 0) (n := (dW d).length) (fun i σ H' => ∃ o4 o5 o6 o7 : Option V, σ = [some (.int (d : Int)), some (.ref W), some (.ref a), some (.ref G), o4, o5, o6, o7, none] ∧ Same H1 H')
      ⟨none, none, none, none, rfl, Same.refl _⟩ ?_ ?_⟩
    · rintro i σ H2 hi ⟨o4, o5, o6, o7, rfl, g2⟩
      obtain ⟨wd, hw⟩ : ∃ wd, (dW d)[i]? = some wd := ⟨_, List.getElem?_eq_getElem hi⟩
      have hwa : atI (((dW d).map Wd.str).map V.str) ((0 : Int) + (i : Int)) = some (.str wd.str) := by
        rw [Int.zero_add]
        exact atI_nat (by rw [List.getElem?_map, List.getElem?_map, hw]; rfl)
      refine ⟨_, rfl, W, _, rfl, .inl (SqL.of (g2 _ _ hW1)), _, rfl, _, _, rfl, rfl, _, _, rfl, rfl, ?_⟩
      rw [lW]
      have ect : (((dW d).length : Int) - ((0 : Int) + (i : Int)) - 1).toNat = (dW d).length - i - 1 := by omega
      refine ⟨_, rfl, _, rfl, W, _, _, .str wd.str, rfl, rfl, SqL.of (g2 _ _ hW1), hwa, _, rfl, wd, a, rs, rfl, (ga.same g2).pan, l2, fun OD os H3 s3 nOD hOD los hos => ?_⟩
      have g3 := g2.trans s3
      refine ⟨OD, rfl, ⟨_, SqL.of hOD⟩, for_list (K := K) (a := OD) (xs := os) (fun j σ H' => ∃ o6 o7 : Option V, σ = [some (.int (d : Int)), some (.ref W), some (.ref a), some (.ref G), some (.int ((0 : Int) + (i : Int))), some (.int (((dW d).length : Int) - ((0 : Int) + (i : Int)) - 1)), o6, o7, none] ∧ Same H3 H')
        ⟨_, _, rfl, Same.refl _⟩ (fun j σ H' _ h => by obtain ⟨_, _, _, h⟩ := h; exact SqL.of (h _ _ hOD)) ?_ ?_⟩
      · rintro j v σ H4 hj ⟨o6, o7, rfl, g4⟩
        have po := po_mon _ _ _ g4 (hos v (List.mem_of_getElem? hj))
        have g14 := g3.trans g4
        have hG4 := g14 _ _ hG
        have lG : ((dW d).map (gw a f1 1 "bun")).length = (dW d).length := List.length_map _
        refine ⟨_, rfl, _, rfl, _, _, rfl, rfl, _, rfl, G, _, rfl, SqL.of hG4, fun B1 nB1 => ?_⟩
        rw [show ((0 : Int) + (i : Int) + 1) = ((i + 1 : Nat) : Int) by omega, cutV_tail (by rw [lG]; omega)]
        have t1 := sn nB1 (o := .lst (((dW d).map (gw a f1 1 "bun")).drop (i + 1)))
        have hB1 : upd H4 B1 (.lst (((dW d).map (gw a f1 1 "bun")).drop (i + 1))) B1 = some (.lst (((dW d).map (gw a f1 1 "bun")).drop (i + 1))) := upd_same
        generalize upd H4 B1 (.lst (((dW d).map (gw a f1 1 "bun")).drop (i + 1))) = H5 at t1 hB1 ⊢
        refine ⟨(show 1 ≤ sizeLine by decide), fun N1 n1 => ⟨_, rfl, N1, _, [.non], rfl, rfl, upd_same, by omega, by omega, Nat.le_of_lt (small1000 (by simp only [List.length_cons, List.length_nil]; omega)), fun B2 nB2 => ?_⟩⟩
        rw [ect, flat_rep]
        have t2 := (sn n1 (o := .lst [V.non])).trans (sn nB2 (o := .lst (List.replicate ((dW d).length - i - 1) V.non)))
        have hB2 : upd (upd H5 N1 (.lst [V.non])) B2 (.lst (List.replicate ((dW d).length - i - 1) V.non)) B2 = some (.lst (List.replicate ((dW d).length - i - 1) V.non)) := upd_same
        have hB15 := t2 _ _ hB1
        generalize upd (upd H5 N1 (.lst [V.non])) B2 (.lst (List.replicate ((dW d).length - i - 1) V.non)) = H6 at t2 hB2 hB15 ⊢
        refine ⟨_, rfl, (show 1 ≤ sizeLine by decide), fun N2 n2 => ⟨_, rfl, N2, _, [v], rfl, rfl, upd_same, by omega, by omega, Nat.le_of_lt (small1000 (by simp only [List.length_cons, List.length_nil]; omega)), fun B3 nB3 => ?_⟩⟩
        rw [ect, flat_rep]
        have t3 := (sn n2 (o := .lst [v])).trans (sn nB3 (o := .lst (List.replicate ((dW d).length - i - 1) v)))
        have hB3 : upd (upd H6 N2 (.lst [v])) B3 (.lst (List.replicate ((dW d).length - i - 1) v)) B3 = some (.lst (List.replicate ((dW d).length - i - 1) v)) := upd_same
        have hB16 := t3 _ _ hB15
        have hB26 := t3 _ _ hB2
        generalize upd (upd H6 N2 (.lst [v])) B3 (.lst (List.replicate ((dW d).length - i - 1) v)) = H7 at t3 hB3 hB16 hB26 ⊢
        refine ⟨(show 3 ≤ sizeLine by decide), fun T nT => ?_⟩
        have t4 := sn nT (o := .tup [.ref B1, .ref B2, .ref B3])
        have hT : upd H7 T (.tup [.ref B1, .ref B2, .ref B3]) T = some (.tup [.ref B1, .ref B2, .ref B3]) := upd_same
        have bs : ∀ x ∈ [V.ref B1, V.ref B2, V.ref B3], ∃ (b : Addr) (rest : List V), x = .ref b ∧ upd H7 T (.tup [.ref B1, .ref B2, .ref B3]) b = some (.lst rest) ∧ rest.length = (dW d).length - i - 1 := by
          intro x hx
          simp only [List.mem_cons, List.not_mem_nil, or_false] at hx
          rcases hx with rfl | rfl | rfl
          · exact ⟨B1, _, rfl, t4 _ _ hB16, by rw [List.length_drop, lG]; omega⟩
          · exact ⟨B2, _, rfl, t4 _ _ hB26, List.length_replicate⟩
          · exact ⟨B3, _, rfl, t4 _ _ hB3, List.length_replicate⟩
        have t04 := ((t1.trans t2).trans t3).trans t4
        generalize upd H7 T (.tup [.ref B1, .ref B2, .ref B3]) = H8 at t04 hT bs ⊢
        clear t1 t2 t3 t4 hB1 hB2 hB3 hB15 hB16 hB26 nB1 nB2 nB3 n1 n2 nT
        have g18 := g14.trans t04
        have po8 := po_mon _ _ _ t04 po
        refine ⟨T, rfl, ⟨_, SqT.of hT⟩, for_tup (K := K) (a := T) (xs := [V.ref B1, V.ref B2, V.ref B3]) (fun m σ H' => ∃ o7 : Option V, σ = [some (.int (d : Int)), some (.ref W), some (.ref a), some (.ref G), some (.int ((0 : Int) + (i : Int))), some (.int (((dW d).length : Int) - ((0 : Int) + (i : Int)) - 1)), some v, o7, none] ∧ Same H8 H')
          ⟨_, rfl, Same.refl _⟩ (fun m σ H' _ h => by obtain ⟨_, _, h⟩ := h; exact SqT.of (h _ _ hT)) ?_ ?_⟩
        · rintro m x σ H9 hm ⟨o7, rfl, g9⟩
          obtain ⟨b, rest, rfl, hb, lr⟩ := bs x (List.mem_of_getElem? hm)
          have g19 := g18.trans g9
          have hG9 := g19 _ _ hG
          have hb9 := g9 _ _ hb
          have po9 := po_mon _ _ _ g9 po8
          refine ⟨_, rfl, _, rfl, _, rfl, _, rfl, G, _, rfl, SqL.of hG9, fun S1 nS1 => ?_⟩
          have ecut : cutV ((dW d).map (gw a f1 1 "bun")) none (some ((0 : Int) + (i : Int))) = ((dW d).map (gw a f1 1 "bun")).take i := by
            rw [show ((0 : Int) + (i : Int)) = ((i : Nat) : Int) by omega]
            exact cut_any (m := i)
          rw [ecut]
          have u1 := sn nS1 (o := .lst (((dW d).map (gw a f1 1 "bun")).take i))
          refine ⟨_, rfl, (show 1 ≤ sizeLine by decide), fun S2 nS2 => ?_⟩
          have u2 := sn nS2 (o := .lst [v])
          refine ⟨S1, S2, _, _, rfl, rfl, u2 _ _ upd_same, upd_same, Nat.le_of_lt (small1000 (by rw [List.length_take, lG]; simp only [List.length_cons, List.length_nil]; omega)), fun S3 nS3 => ?_⟩
          have u3 := (u1.trans u2).trans (sn nS3 (o := .lst (((dW d).map (gw a f1 1 "bun")).take i ++ [v])))
          refine ⟨_, rfl, S3, b, _, _, rfl, rfl, upd_same, u3 _ _ hb9, Nat.le_of_lt (small1000 (by rw [List.length_append, List.length_take, lG, lr]; simp only [List.length_cons, List.length_nil]; omega)), fun S4 nS4 => ?_⟩
          have u4 := u3.trans (sn nS4 (o := .lst (((dW d).map (gw a f1 1 "bun")).take i ++ [v] ++ rest)))
          have hS4 := upd_same (a := S4) (o := HO.lst (((dW d).map (gw a f1 1 "bun")).take i ++ [v] ++ rest)) (H := upd (upd (upd H9 S1 (.lst (((dW d).map (gw a f1 1 "bun")).take i))) S2 (.lst [v])) S3 (.lst (((dW d).map (gw a f1 1 "bun")).take i ++ [v])))
          refine ⟨d, S4, _, a, f1, 1, "bun", jx, jac, rs, rfl, hd, hS4, (ga.same g19).same u4, .inl ⟨wd, v, ⟨i, rest, hw, by rw [List.append_assoc]; rfl, by omega, by rw [l2]; exact po9.1.same u4, fun _ _ _ _ _ => trivial⟩, fun D H' s' nD hD => ?_⟩⟩
          have u5 := u4.trans s'
          refine ⟨_, rfl, _, rfl, W, _, _, .str wd.str, rfl, rfl, SqL.of ((g19.trans u5) _ _ hW1), hwa, _, rfl, (show 2 ≤ sizeLine by decide), fun E2 nE2 => ?_⟩
          have u6 := u5.trans (sn nE2 (o := .lst [.str wd.str, v]))
          refine ⟨true, lists_same (xs := [.str wd.str, v]) ((sn nE2) _ _ hD) upd_same (by rw [List.all_cons, List.all_cons, po9.2]; rfl), _, rfl, iteF ?_⟩
          exact ⟨_, rfl, g9.trans u6⟩
        · rintro σ H9 ⟨o7, rfl, g9⟩
          exact ⟨_, _, rfl, (g4.trans t04).trans g9⟩
      · rintro σ H4 ⟨o6, o7, rfl, g4⟩
        exact ⟨_, _, _, _, rfl, g3.trans g4⟩
    · rintro σ H2 ⟨o4, o5, o6, o7, rfl, g2⟩
      refine ⟨_, rfl, _, rfl, d, G, _, a, f1, 1, "bun", jx, jac, rs, rfl, hd, g2 _ _ hG, ga.same g2, .inr ⟨rfl, fun H' s' => ⟨rfl, ?_⟩⟩⟩
      exact k H' ((s1.trans g2).trans s')
end
end K08

set_option maxHeartbeats 8000000
namespace K08
open PySem PySem.Spec PyProof.Rows L2 G1
def spStruck (C : Addr) : Sp := fun vs H Q _ => ∃ (a l : Addr) (xs zs : List Str) (rs : List (List Str)), vs = [.ref a, .ref l] ∧ PanelAt H C a xs rs ∧ H l = some (.lst (zs.map V.str)) ∧ lotB xs zs = true ∧ zs.length ≤ 1000 ∧ zs.length ≠ xs.length ∧ (∀ z ∈ xs, Nm z) ∧ xs.Nodup ∧ xs.length ≤ 40 ∧ sortedS xs = true ∧
  (∃ z ∈ xs, z ∉ zs) ∧ (∀ r ∈ rs, r.Perm xs) ∧ 1 ≤ rs.length ∧ rs.length ≤ 40 ∧ ∀ (PN : Addr) (H' : Hp), Same H H' → H PN = none → PanF H' C PN (less zs xs) (rs.map (less zs)) → Q (.ref PN) H'
/-- the scope of the comprehension that is handed on second -/
def scRowIn : Scope := { kind := .function, names := [(Str.ofString ".0", .local), (Str.ofString "row", .local), (Str.ofString "lot", .cell)], isGenerator := false, isCoroutine := false }
section
variable {P : Program} {w : World} {K : PySem.W.Frag} {mg : Str → Option Value} {base : Heap} {C : Addr}
abbrev sStruck : Stmt := methS 7
abbrev nStruck : List Str := ["self", "lot", "left", "name", "row"]
theorem scStruck : FnScope nStruck ["self", "lot"] (defScope sStruck) := ⟨rfl, rfl, rfl, by decide +kernel, rfl, by decide +kernel, by decide +kernel⟩
theorem ok_struck {f fI : Addr} {fd fdI : FuncData} (F : FnM K "struck" "Panel.struck" sStruck f fd) (L : Lib K mg) (PC : PanC K C) (M : Mk K C fI) (gP : mg "Panel" = some (.ref C)) (FI : FnM K "__init__" "Panel.__init__" sInit fI fdI) (GI : FnOk P w K mg base (L2.CX P w) 4 fI fdI ["self", "entries", "rows"] (spInit K C))
    (DL : Df P w K mg base 2 "is_lot" sIsLot ["entries", "value"] (spIsLot K)) : FnOk P w K mg base CX0 6 f fd ["self", "lot"] (spStruck C) := by
  have bI : Binds K fdI ["self", "entries", "rows"] [] := FI.bindsN fun _ _ _ _ _ _ us hl => match us, hl with | [_, _, _], _ => rfl
  refine okN F scStruck (fun vs H Q E h => ?_) (fun cdv A outer s H vs Q E hr h => ?_)
  · obtain ⟨_, _, _, _, _, rfl, _⟩ := h
    rfl
  · obtain ⟨a, l, xs, zs, rs, rfl, ⟨dx, fs, Na, R, cs, h1, h2, h3, h4, h5, h6⟩, hl, hlot, lz, ne, nm, nd, lx, so, hz, hp, r1, r40, k⟩ := h
    refine ⟨_, pss_cons (ps_if (PW.pt (pw_or (pt_not (pt_val (pe_df DL (hr.mono (by decide)) (by rfl) (pa_cons (pe_fld (pv 0) rfl) (pa_cons (pv 1) pa_nil)))))
          (pw_or1 (pt_cmpR op_eq (pe_callB call_len_seq (by rfl) L.len PySem.boot_len (pa_cons (pv 1) pa_nil)) (pe_callB call_len_seq (by rfl) L.len PySem.boot_len (pa_cons (pe_fld (pv 0) rfl) pa_nil)) (nomark _))))) (pss_one ps_never) pss_nil)
      (pss_cons (ps_setLc (i := 2) (own := [("name", 3)]) (g := gName 3) (tt := tTest (tOp (rIn K true) (tVar 3) (tVar 1))) (te := tVar 3) (by rfl) scStruck.nd rfl rfl (sw_true rfl rfl rfl (by decide +kernel)) (pi_list (pe_fld (pv 0) rfl))
          (blkOk_by (N := nStruck) (sc := defScope sStruck) (by decide +kernel)) (fun _ _ _ _ _ => pg_name (i := 3) scStruck.nd rfl (Or.inl rfl)) (fun _ _ _ _ _ => pts_one (pt_cmpR op_notIn_seq (pv 3) (pv 1) (by rfl))) (fun _ _ _ _ _ => pv 3))
      (pss_one (ps_ret (pe_makeS M GI hr (by rfl) gP bI (fun σ => passAt takes_none5 σ) (pa_cons (pv 2) (pa_cons
        (pe_lc (own := [("row", 4)]) (g := gName 4) (tt := tYes) (te := tLc (iList K (tVar 4)) (gName 3) (tTest (tOp (rIn K true) (tVar 3) (tVar 1))) (tVar 3) [3]) rfl scStruck.nd (pi_list (pe_fld (pv 0) rfl))
          (blkOk_by (N := nStruck) (sc := defScope sStruck) (by decide +kernel)) (fun _ _ _ _ _ => pg_name (i := 4) scStruck.nd rfl (Or.inl rfl)) (fun _ _ _ _ _ => pts_nil)
          (fun _ _ _ _ _ => pe_lc (own := [("name", 3)]) (g := gName 3) (tt := tTest (tOp (rIn K true) (tVar 3) (tVar 1))) (te := tVar 3) (by rfl) scStruck.nd (pi_list (pv 4))
            (blkOk_by (N := nStruck) (sc := scRowIn) (by decide +kernel)) (fun _ _ _ _ _ => pg_name (i := 3) scStruck.nd rfl (Or.inl rfl)) (fun _ _ _ _ _ => pts_one (pt_cmpR op_notIn_seq (pv 3) (pv 1) (by rfl))) (fun _ _ _ _ _ => pv 3))) pa_nil)))))), ?_⟩
    refine ⟨_, rfl, a, C, dx, fs, _, rfl, h1, PC.cls, PC.nE, h2, _, rfl, Na, l, xs, zs, rfl, SqL.of h4, hl, lz, fun H1 s1 => ?_⟩
    rw [hlot]
    refine ⟨_, rfl, _, rfl, l, _, rfl, .inl (SqL.of (s1 _ _ hl)), _, rfl, a, C, dx, fs, _, rfl, s1 _ _ h1, PC.cls, PC.nE, h2, Na, _, rfl, .inl (SqL.of (s1 _ _ h4)), rfl, ?_⟩
    rw [List.length_map, List.length_map]
    refine ⟨_, rfl, ite2 (fun q => absurd (of_decide_eq_true q) (fun z => ne (by injection z; omega))) fun _ => ?_⟩
    -- left
    refine ⟨_, rfl, a, C, dx, fs, _, rfl, s1 _ _ h1, PC.cls, PC.nE, h2, Na, rfl, ⟨_, SqL.of (s1 _ _ h4)⟩, fun D hD => lc_list (K := K) (a := Na) (xs := xs.map V.str) (fun i H' => H' D = some (.lst ((less zs (xs.take i)).map V.str)) ∧ Same H1 H') ⟨upd_same, sn hD⟩ (fun i H' _ h => SqL.of (h.2 _ _ (s1 _ _ h4))) ?_ ?_⟩
    · rintro i y H' hi ⟨q1, q2⟩
      rw [List.getElem?_map] at hi
      obtain ⟨z, hz1, rfl⟩ := Option.map_eq_some_iff.mp hi
      refine ⟨rfl, _, rfl, _, rfl, l, zs.map V.str, rfl, .inl (SqL.of (q2 _ _ (s1 _ _ hl))), rfl, flat_strs, ?_⟩
      refine ⟨!decide (z ∈ zs), by rw [if_pos rfl, inV_str], ?_⟩
      have tk := less_take (zs := zs) hz1
      by_cases e : z ∈ zs
      · rw [decide_eq_true e]
        rw [if_pos e, List.append_nil] at tk
        exact iteF ⟨by rw [tk]; exact q1, q2⟩
      · rw [decide_eq_false e]
        rw [if_neg e] at tk
        refine iteT ⟨_, rfl, _, q1, small1000 ?_, ?_, fun b o eb => ?_⟩
        · rw [List.length_map]
          have := List.length_filter_le (fun z => decide (z ∉ zs)) (xs.take i)
          have := List.length_take_le' i xs
          show (less zs (xs.take i)).length ≤ 1000
          unfold less
          omega
        · rw [upd_same, tk, List.map_append]
          rfl
        · rw [upd_ne (ne_of_none eb hD)]
          exact q2 _ _ eb
    · rintro H2 ⟨q1, q2⟩
      rw [List.length_map, List.take_length] at q1
      have s2 := s1.trans q2
      -- the rows
      refine ⟨_, rfl, _, rfl, a, C, dx, fs, _, rfl, s2 _ _ h1, PC.cls, PC.nR, h3, R, rfl, ⟨_, SqL.of (s2 _ _ h5)⟩, fun D2 hD2 => lc_list (K := K) (a := R) (xs := cs.map V.ref)
        (fun i H' => ∃ ls : List Addr, H' D2 = some (.lst (ls.map V.ref)) ∧ RowsAt H' ls ((rs.take i).map (less zs)) ∧ (∀ c ∈ ls, H2 c = none ∧ c ≠ D2) ∧ Same H2 H') ⟨[], upd_same, .nil, (fun c hc => nomatch hc), sn hD2⟩ (fun i H' _ h => by obtain ⟨_, _, _, _, h⟩ := h; exact SqL.of (h _ _ (s2 _ _ h5))) ?_ ?_⟩
      · rintro i y H' hi ⟨ls, g1, g2, g3, g4⟩
        rw [List.getElem?_map] at hi
        obtain ⟨c, hc, rfl⟩ := Option.map_eq_some_iff.mp hi
        obtain ⟨r, hr1, hr2⟩ := h6.at hc
        have lr : r.length ≤ 40 := by rw [(hp r (List.mem_of_getElem? hr1)).length_eq]; exact lx
        refine ⟨rfl, _, rfl, c, rfl, ⟨_, SqL.of ((s2.trans g4) _ _ hr2)⟩, fun D3 hD3 => lc_list (K := K) (a := c) (xs := r.map V.str) (fun j H'' => H'' D3 = some (.lst ((less zs (r.take j)).map V.str)) ∧ Same H' H'') ⟨upd_same, sn hD3⟩ (fun j H'' _ h => SqL.of (h.2 _ _ ((s2.trans g4) _ _ hr2))) ?_ ?_⟩
        · rintro j y H'' hj ⟨q3, q4⟩
          rw [List.getElem?_map] at hj
          obtain ⟨z, hz1, rfl⟩ := Option.map_eq_some_iff.mp hj
          refine ⟨rfl, _, rfl, _, rfl, l, zs.map V.str, rfl, .inl (SqL.of (((s2.trans g4).trans q4) _ _ hl)), rfl, flat_strs, ?_⟩
          refine ⟨!decide (z ∈ zs), by rw [if_pos rfl, inV_str], ?_⟩
          have tk := less_take (zs := zs) hz1
          by_cases e : z ∈ zs
          · rw [decide_eq_true e]
            rw [if_pos e, List.append_nil] at tk
            exact iteF ⟨by rw [tk]; exact q3, q4⟩
          · rw [decide_eq_false e]
            rw [if_neg e] at tk
            refine iteT ⟨_, rfl, _, q3, small1000 ?_, ?_, fun b o eb => ?_⟩
            · rw [List.length_map]
              have := List.length_filter_le (fun z => decide (z ∉ zs)) (r.take j)
              have := List.length_take_le' j r
              show (less zs (r.take j)).length ≤ 1000
              unfold less
              omega
            · rw [upd_same, tk, List.map_append]
              rfl
            · rw [upd_ne (ne_of_none eb hD3)]
              exact q4 _ _ eb
        · rintro H'' ⟨q3, q4⟩
          rw [List.length_map, List.take_length] at q3
          have nD32 : D3 ≠ D2 := fun q => by rw [q, g1] at hD3; cases hD3
          have tk2 : (rs.take (i + 1)).map (less zs) = (rs.take i).map (less zs) ++ [less zs r] := by rw [List.take_succ, hr1, List.map_append]; rfl
          refine ⟨ls.map V.ref, q4 _ _ g1, small1000 ?_, ls ++ [D3], by rw [upd_same, List.map_append]; rfl, ?_, fun x hx => ?_, fun b o e => ?_⟩
          · rw [List.length_map, g2.len, List.length_map]
            have := List.length_take_le' i rs
            omega
          · rw [tk2]
            refine RowsAt.snoc ((g2.same q4).keep fun x hx o e => ?_) ?_
            · rw [upd_ne (g3 x hx).2]
              exact e
            · rw [upd_ne nD32]
              exact q3
          · rcases List.mem_append.mp hx with hx | hx
            · exact g3 x hx
            · rw [List.mem_singleton.mp hx]
              exact ⟨g4.free hD3, nD32⟩
          · rw [upd_ne (ne_of_none e hD2)]
            exact q4 _ _ (g4 _ _ e)
      · rintro H3 ⟨ls, g1, g2, g3, g4⟩
        rw [List.length_map, h6.len, List.take_length] at g2
        have s3 := s2.trans g4
        have lle : (less zs xs).length ≤ xs.length := List.length_filter_le _ _
        obtain ⟨z0, hz0, nz0⟩ := hz
        have z1 : z0 ∈ less zs xs := List.mem_filter.mpr ⟨hz0, decide_eq_true nz0⟩
        refine make_ok (g4 _ _ q1) (fun z hzz => nm z (List.mem_filter.mp hzz).1) (nd.sublist List.filter_sublist) (List.length_pos_of_mem z1) (by omega) (.refl _) (sorted_filter so) g1 g2 (fun y hy => ?_) (by rw [List.length_map]; exact r1) (by rw [List.length_map]; exact r40) fun PN H4 s4 nPN pan _ fre => ?_
        · obtain ⟨r, hr1, rfl⟩ := List.mem_map.mp hy
          exact (hp r hr1).filter _
        · exact k PN H4 (s3.trans s4) (s3.free nPN) ⟨pan, fre.same new_sub, by rw [List.length_map]; omega⟩
end
end K08

set_option maxHeartbeats 8000000
namespace K08
open PySem PySem.Spec PyProof.Rows L2 G1
/-- a panel stands as before where only the purse is changed -/
theorem PanF.but {H H2 : Hp} {C a p : Addr} {c : Nat} {xs : List Str} {rs : List (List Str)} (h : PanF H C a xs rs) (hp : Purse H p c) (b : But p H H2) : PanF H2 C a xs rs := by
  obtain ⟨⟨dx, fs, N, R, cs, h1, h2, h3, h4, h5, h6⟩, ⟨dx2, fs2, f1, f2⟩, le⟩ := h
  have na : a ≠ p := fun q => by
    obtain ⟨zs, hz, _⟩ := hp
    rw [q, hz] at h1
    cases h1
  exact ⟨⟨dx, fs, N, R, cs, b _ _ na h1, h2, h3, b _ _ (ne_purse h4 str_no_int hp) h4, b _ _ (ne_purse h5 ref_no_int hp) h5, h6.but b hp⟩, ⟨dx2, fs2, b _ _ na f1, f2⟩, le⟩
end K08

set_option maxHeartbeats 8000000
namespace K08
open PySem PySem.Spec PyProof.Rows L2 G1
theorem cutV_drop {xs : List V} {n : Nat} (h : n ≤ xs.length) : cutV xs (some (n : Int)) none = xs.drop n := by
  have e : HT.sIx xs.length 0 (some (n : Int)) = n := by
    rw [HT.sIx_nat]
    omega
  have e2 : HT.sIx xs.length xs.length none = xs.length := rfl
  unfold cutV
  rw [e, e2]
  exact List.take_of_length_le (by rw [List.length_drop]; exact Nat.le_refl _)
/-- a method with arguments -/
structure Mt2 (P : Program) (w : World) (K : PySem.W.Frag) (mg : Str → Option Value) (base : Heap) (C : Addr) (k : Nat) (m : Str) (ps : List Str) (sp : Sp) : Prop where
  ex : ∃ (f : Addr) (fd : FuncData), Meth K C m f ∧ FnOk P w K mg base CX0 k f fd ps sp ∧ Binds K fd ps []
theorem pe_mt2 {X : Cx} {C : Addr} {k : Nat} {m : Str} {ps : List Str} {sp : Sp} {o e : Expr} {es : List Expr} {ta : TE} {t : TA} {apos pos : Pos} {pl : Sem Bool} (he : PE X o ta) (c : Cls X.K C) (M : Mt2 X.prog X.w X.K X.mg X.base C k m ps sp) (hr : Room k X.A) (ha : PA X (e :: es) t)
    (hst : starEach (e :: es) X.env = (false, eval e X.env) :: starEach es X.env := by rfl) (hpl : (backTo pos (starEach es X.env)).any (·.1) = false := by rfl)
    (ht : eval (.Call (.Attribute o m apos) (e :: es) [] pos) X.env = (do
      let ov ← eval o X.env
      standAt apos.atName
      let (f, first) ← holding [ov] (getMethod ov m pl)
      callWith pos f first (backTo pos (starEach (e :: es) X.env)) (backToKw pos (keywordEach [] X.env))) := by rfl) :
    PE X (.Call (.Attribute o m apos) (e :: es) [] pos) (tMeth C m sp [] E0 ta t) := by
  obtain ⟨f, fd, M1, G, b⟩ := M.ex
  exact pe_meth he c M1 G hr b .nil pass0 ha hst hpl ht
theorem FnM.mt2 {P : Program} {w : World} {K : PySem.W.Frag} {mg : Str → Option Value} {base : Heap} {C f : Addr} {fd : FuncData} {k : Nat} {m : Str} {ps : List Str} {sp : Sp} (M1 : Meth K C m f) (G : FnOk P w K mg base CX0 k f fd ps sp) (b : Binds K fd ps []) : Mt2 P w K mg base C k m ps sp := ⟨f, fd, M1, G, b⟩
/-! ### check_row, with_row, without_row -/
def spChkRw (K : PySem.W.Frag) : Sp := fun vs H Q _ => ∃ (n r : Addr) (xs zs : List Str), vs = [.ref n, .ref r] ∧ SqL K H n (xs.map V.str) ∧ sortedS xs = true ∧ H r = some (.lst (zs.map V.str)) ∧ zs.Perm xs ∧ zs.length ≤ 60 ∧ ∀ H', Same H H' → Q .non H'
def spWith (C : Addr) : Sp := fun vs H Q _ => ∃ (a r : Addr) (xs zs : List Str) (rs : List (List Str)), vs = [.ref a, .ref r] ∧ PanF H C a xs rs ∧ Good xs rs ∧ H r = some (.lst (zs.map V.str)) ∧ zs.Perm xs ∧
  ∀ (PN : Addr) (H' : Hp), Same H H' → H PN = none → PanF H' C PN xs (rs ++ [zs]) → Q (.ref PN) H'
def spWout (C : Addr) : Sp := fun vs H Q _ => ∃ (a : Addr) (i : Nat) (xs : List Str) (rs : List (List Str)), vs = [.ref a, .int (i : Int)] ∧ PanF H C a xs rs ∧ Good xs rs ∧ i < rs.length ∧ 2 ≤ rs.length ∧
  ∀ (PN : Addr) (H' : Hp), Same H H' → H PN = none → PanF H' C PN xs (rs.take i ++ rs.drop (i + 1)) → Q (.ref PN) H'
section
variable {P : Program} {w : World} {K : PySem.W.Frag} {mg : Str → Option Value} {base : Heap} {C : Addr}
abbrev sChkRw : Stmt := top 22
theorem scChkRw : FnScope ["entries", "row"] ["entries", "row"] (defScope sChkRw) := ⟨rfl, rfl, rfl, by decide +kernel, rfl, by decide +kernel, by decide +kernel⟩
theorem ok_chkRw {f fR : Addr} {fd fdR : FuncData} (F : FnP K "check_row" sChkRw f fd) (FR : FnP K "is_row" sIsRow fR fdR) (gR : mg "is_row" = some (.ref fR)) (GR : FnOk P w K mg base CX0 1 fR fdR ["entries", "value"] (spIsRow K)) :
    FnOk P w K mg base CX0 2 f fd ["entries", "row"] (spChkRw K) := by
  have bR : Binds K fdR ["entries", "value"] [] := FR.bindsN fun _ _ _ _ _ _ us hl => match us, hl with | [_, _], _ => rfl
  refine okN F scChkRw (fun vs H Q E h => ?_) (fun cdv A outer s H vs Q E hr h => ?_)
  · obtain ⟨_, _, _, _, rfl, _⟩ := h
    rfl
  · obtain ⟨n, r, xs, zs, rfl, hn, so, hz, pz, lz, k⟩ := h
    refine ⟨_, pss_one (ps_if (pt_not (pt_val (pe_call GR hr (by rfl) gR FR.kp bR .nil pass0 (pa_cons (pv 0) (pa_cons (pv 1) pa_nil))))) (pss_one ps_never) pss_nil), ?_⟩
    exact ⟨_, rfl, _, rfl, n, xs, .ref r, true, rfl, hn, so, .lst hz (by rw [List.length_map]; exact lz) (.ofStrs zs) ⟨fun _ => ⟨zs, rfl, pz⟩, fun _ => rfl⟩, fun H1 s1 => ⟨_, rfl, k H1 s1⟩⟩
abbrev sWith : Stmt := methS 5
theorem scWith : FnScope ["self", "row"] ["self", "row"] (defScope sWith) := ⟨rfl, rfl, rfl, by decide +kernel, rfl, by decide +kernel, by decide +kernel⟩
theorem ok_with {f fI : Addr} {fd fdI : FuncData} (F : FnM K "with_row" "Panel.with_row" sWith f fd) (PC : PanC K C) (M : Mk K C fI) (gP : mg "Panel" = some (.ref C)) (FI : FnM K "__init__" "Panel.__init__" sInit fI fdI) (GI : FnOk P w K mg base (L2.CX P w) 4 fI fdI ["self", "entries", "rows"] (spInit K C))
    (DR : Df P w K mg base 2 "check_row" sChkRw ["entries", "row"] (spChkRw K)) : FnOk P w K mg base CX0 6 f fd ["self", "row"] (spWith C) := by
  have bI : Binds K fdI ["self", "entries", "rows"] [] := FI.bindsN fun _ _ _ _ _ _ us hl => match us, hl with | [_, _, _], _ => rfl
  refine okN F scWith (fun vs H Q E h => ?_) (fun cdv A outer s H vs Q E hr h => ?_)
  · obtain ⟨_, _, _, _, _, rfl, _⟩ := h
    rfl
  · obtain ⟨a, r, xs, zs, rs, rfl, ⟨⟨dx, fs, Na, R, cs, h1, h2, h3, h4, h5, h6⟩, fre, le⟩, gd, hz, pz, k⟩ := h
    have lz : zs.length ≤ 7 := by rw [pz.length_eq]; exact gd.l6
    refine ⟨_, pss_cons (ps_expr (pe_df DR (hr.mono (by decide)) (by rfl) (pa_cons (pe_fld (pv 0) rfl) (pa_cons (pv 1) pa_nil))))
      (pss_one (ps_ret (pe_makeS M GI hr (by rfl) gP bI (fun σ => passAt takes_none5 σ) (pa_cons (pe_fld (pv 0) rfl) (pa_cons (pe_op op_cat (pe_fld (pv 0) rfl) (pe_lst (pa_cons (pv 1) pa_nil))) pa_nil))))), ?_⟩
    refine ⟨_, rfl, a, C, dx, fs, _, rfl, h1, PC.cls, PC.nE, h2, _, rfl, Na, r, xs, zs, rfl, SqL.of h4, gd.so, hz, pz, by omega, fun H1 s1 => ?_⟩
    refine ⟨_, rfl, a, C, dx, fs, _, rfl, s1 _ _ h1, PC.cls, PC.nE, h2, _, rfl, a, C, dx, fs, _, rfl, s1 _ _ h1, PC.cls, PC.nR, h3, _, rfl, (show 1 ≤ sizeLine by decide), fun L nL => ?_⟩
    have s2 := s1.trans (sn nL (o := .lst [.ref r]))
    have hL : upd H1 L (.lst [.ref r]) L = some (.lst [.ref r]) := upd_same
    generalize upd H1 L (.lst [.ref r]) = H2 at s2 hL ⊢
    have l8 := gd.r8
    have lc := h6.len
    refine ⟨R, L, _, _, rfl, rfl, s2 _ _ h5, hL, Nat.le_of_lt (small1000 (by rw [List.length_map]; simp only [List.length_cons, List.length_nil]; omega)), fun G nG => ?_⟩
    have eG : cs.map V.ref ++ [V.ref r] = (cs ++ [r]).map V.ref := by rw [List.map_append]; rfl
    rw [eG]
    have s3 := s2.trans (sn nG (o := .lst ((cs ++ [r]).map V.ref)))
    have hG : upd H2 G (.lst ((cs ++ [r]).map V.ref)) G = some (.lst ((cs ++ [r]).map V.ref)) := upd_same
    generalize upd H2 G (.lst ((cs ++ [r]).map V.ref)) = H3 at s3 hG ⊢
    refine make_ok (zs := xs) (xs := xs) (s3 _ _ h4) gd.nm gd.nd gd.l1 (by have := gd.l6; omega) (.refl _) gd.so hG ((h6.same s3).snoc (s3 _ _ hz)) (fun y hy => ?_) (by rw [List.length_append]; simp) (by rw [List.length_append]; simp only [List.length_cons, List.length_nil]; omega) fun PN H4 s4 nPN pan _ fre2 => ?_
    · rcases List.mem_append.mp hy with h | h
      · exact gd.pr y h
      · rw [List.mem_singleton.mp h]
        exact pz
    · exact k PN H4 (s3.trans s4) (s3.free nPN) ⟨pan, fre2.same new_sub, by rw [List.length_append]; simp only [List.length_cons, List.length_nil]; omega⟩
abbrev sWout : Stmt := methS 6
theorem scWout : FnScope ["self", "at"] ["self", "at"] (defScope sWout) := ⟨rfl, rfl, rfl, by decide +kernel, rfl, by decide +kernel, by decide +kernel⟩
theorem ok_wout {f fI : Addr} {fd fdI : FuncData} (F : FnM K "without_row" "Panel.without_row" sWout f fd) (L : Lib K mg) (PC : PanC K C) (M : Mk K C fI) (gP : mg "Panel" = some (.ref C)) (FI : FnM K "__init__" "Panel.__init__" sInit fI fdI) (GI : FnOk P w K mg base (L2.CX P w) 4 fI fdI ["self", "entries", "rows"] (spInit K C))
    (DA : Df P w K mg base 2 "check_position" sChkAt ["many", "at"] spChkAt) : FnOk P w K mg base CX0 6 f fd ["self", "at"] (spWout C) := by
  have bI : Binds K fdI ["self", "entries", "rows"] [] := FI.bindsN fun _ _ _ _ _ _ us hl => match us, hl with | [_, _, _], _ => rfl
  refine okN F scWout (fun vs H Q E h => ?_) (fun cdv A outer s H vs Q E hr h => ?_)
  · obtain ⟨_, _, _, _, rfl, _⟩ := h
    rfl
  · obtain ⟨a, i, xs, rs, rfl, ⟨⟨dx, fs, Na, R, cs, h1, h2, h3, h4, h5, h6⟩, fre, le⟩, gd, li, l2, k⟩ := h
    have l8 := gd.r8
    have lc := h6.len
    refine ⟨_, pss_cons (ps_expr (pe_df DA (hr.mono (by decide)) (by rfl) (pa_cons (pe_callB call_len_seq (by rfl) L.len PySem.boot_len (pa_cons (pe_fld (pv 0) rfl) pa_nil)) (pa_cons (pv 1) pa_nil))))
      (pss_cons (ps_if (pt_cmpR op_eq (pe_callB call_len_seq (by rfl) L.len PySem.boot_len (pa_cons (pe_fld (pv 0) rfl) pa_nil)) pe_int (nomark _)) (pss_one ps_never) pss_nil)
      (pss_one (ps_ret (pe_makeS M GI hr (by rfl) gP bI (fun σ => passAt takes_none5 σ) (pa_cons (pe_fld (pv 0) rfl) (pa_cons (pe_op op_cat (pe_slice sl_list (pe_fld (pv 0) rfl) po_none (po_some (pv 1))) (pe_slice sl_list (pe_fld (pv 0) rfl) (po_some (pe_op op_add (pv 1) pe_int)) po_none)) pa_nil)))))), ?_⟩
    refine ⟨_, rfl, a, C, dx, fs, _, rfl, h1, PC.cls, PC.nR, h3, R, _, rfl, .inl (SqL.of h5), _, rfl, ?_⟩
    rw [List.length_map, lc]
    refine ⟨(rs.length : Int), (i : Int), rfl, by omega, by omega, ?_⟩
    refine ⟨_, rfl, a, C, dx, fs, _, rfl, h1, PC.cls, PC.nR, h3, R, _, rfl, .inl (SqL.of h5), rfl, ?_⟩
    rw [List.length_map, lc]
    refine ⟨_, rfl, ite2 (fun q => absurd (of_decide_eq_true q) (fun z => by injection z; omega)) fun _ => ?_⟩
    refine ⟨_, rfl, a, C, dx, fs, _, rfl, h1, PC.cls, PC.nE, h2, _, rfl, a, C, dx, fs, _, rfl, h1, PC.cls, PC.nR, h3, _, rfl, _, rfl, R, _, rfl, SqL.of h5, fun S1 nS1 => ?_⟩
    rw [cut_any (m := i), ← List.map_take]
    have s1 := sn nS1 (o := .lst ((cs.take i).map V.ref))
    have hS1 : upd H S1 (.lst ((cs.take i).map V.ref)) S1 = some (.lst ((cs.take i).map V.ref)) := upd_same
    generalize upd H S1 (.lst ((cs.take i).map V.ref)) = H1 at s1 hS1 ⊢
    refine ⟨_, rfl, a, C, dx, fs, _, rfl, s1 _ _ h1, PC.cls, PC.nR, h3, _, rfl, _, _, rfl, rfl, _, rfl, R, _, rfl, SqL.of (s1 _ _ h5), fun S2 nS2 => ?_⟩
    rw [show ((i : Int) + 1) = ((i + 1 : Nat) : Int) from rfl, cutV_drop (by rw [List.length_map]; omega), ← List.map_drop]
    have s2 := s1.trans (sn nS2 (o := .lst ((cs.drop (i + 1)).map V.ref)))
    have hS12 := sn nS2 (o := .lst ((cs.drop (i + 1)).map V.ref)) _ _ hS1
    have hS2 : upd H1 S2 (.lst ((cs.drop (i + 1)).map V.ref)) S2 = some (.lst ((cs.drop (i + 1)).map V.ref)) := upd_same
    generalize upd H1 S2 (.lst ((cs.drop (i + 1)).map V.ref)) = H2 at s2 hS12 hS2 ⊢
    refine ⟨S1, S2, _, _, rfl, rfl, hS12, hS2, Nat.le_of_lt (small1000 (by rw [List.length_map, List.length_map, List.length_take, List.length_drop]; omega)), fun G nG => ?_⟩
    rw [← List.map_append]
    have s3 := s2.trans (sn nG (o := .lst ((cs.take i ++ cs.drop (i + 1)).map V.ref)))
    have hG : upd H2 G (.lst ((cs.take i ++ cs.drop (i + 1)).map V.ref)) G = some (.lst ((cs.take i ++ cs.drop (i + 1)).map V.ref)) := upd_same
    generalize upd H2 G (.lst ((cs.take i ++ cs.drop (i + 1)).map V.ref)) = H3 at s3 hG ⊢
    have lt : (rs.take i ++ rs.drop (i + 1)).length = rs.length - 1 := by rw [List.length_append, List.length_take, List.length_drop]; omega
    refine make_ok (zs := xs) (xs := xs) (s3 _ _ h4) gd.nm gd.nd gd.l1 (by have := gd.l6; omega) (.refl _) gd.so hG (((h6.tk i).app (h6.dr (i + 1))).same s3) (fun y hy => ?_) (by omega) (by omega) fun PN H4 s4 nPN pan _ fre2 => ?_
    · rcases List.mem_append.mp hy with h | h
      · exact gd.pr y (List.mem_of_mem_take h)
      · exact gd.pr y (List.mem_of_mem_drop h)
    · exact k PN H4 (s3.trans s4) (s3.free nPN) ⟨pan, fre2.same new_sub, by omega⟩
end
end K08

set_option maxHeartbeats 8000000
namespace K08
open PySem PySem.Spec PyProof.Rows L2 G1
def spIsRen (K : PySem.W.Frag) : Sp := fun vs H Q _ => ∃ (n d : Addr) (xs ks ws : List Str), vs = [.ref n, .ref d] ∧ H n = some (.lst (xs.map V.str)) ∧ H d = some (.dK (kvP ks ws)) ∧ ks.Perm xs ∧ ks.length = ws.length ∧ xs.length ≤ 40 ∧ 1 ≤ xs.length ∧ (∀ z ∈ ws, Nm z) ∧ ws.Nodup ∧ ∀ H', Same H H' → Q (.bl true) H'
def spRen (C : Addr) : Sp := fun vs H Q _ => ∃ (a d : Addr) (xs ks ws zs : List Str) (rs : List (List Str)), vs = [.ref a, .ref d] ∧ PanF H C a xs rs ∧ Good xs rs ∧ H d = some (.dK (kvP ks ws)) ∧ ks.Perm xs ∧ ks.length = ws.length ∧ (∀ z ∈ ws, Nm z) ∧ ws.Nodup ∧ zs.Perm ws ∧ sortedS zs = true ∧
  ∀ (PN : Addr) (H' : Hp), Same H H' → H PN = none → PanF H' C PN zs (rs.map fun r => r.map (ren ks ws)) → Q (.ref PN) H'
theorem Good.ren {xs ks ws zs : List Str} {rs : List (List Str)} (gd : Good xs rs) (p : ks.Perm xs) (l : ks.length = ws.length) (nm : ∀ z ∈ ws, Nm z) (nd : ws.Nodup) (pz : zs.Perm ws) (so : sortedS zs = true) : Good zs (rs.map fun r => r.map (G1.ren ks ws)) := by
  have lz : zs.length = xs.length := by rw [pz.length_eq, ← l, p.length_eq]
  refine ⟨fun z hz => nm z (pz.mem_iff.mp hz), pz.nodup_iff.mpr nd, by rw [lz]; exact gd.l1, by rw [lz]; exact gd.l6, so, fun y hy => ?_, by rw [List.length_map]; exact gd.r1, by rw [List.length_map]; exact gd.r8⟩
  obtain ⟨r, hr, rfl⟩ := List.mem_map.mp hy
  exact (ren_perm l (p.nodup_iff.mpr gd.nd) ((gd.pr r hr).trans p.symm)).trans pz.symm
def scRenIn : Scope := { kind := .function, names := [(Str.ofString ".0", .local), (Str.ofString "row", .local), (Str.ofString "names", .cell)], isGenerator := false, isCoroutine := false }
section
variable {P : Program} {w : World} {K : PySem.W.Frag} {mg : Str → Option Value} {base : Heap} {C : Addr}
abbrev sIsRen : Stmt := top 29
abbrev nIsRen : List Str := ["entries", "value", "name"]
theorem scIsRen : FnScope nIsRen ["entries", "value"] (defScope sIsRen) := ⟨rfl, rfl, rfl, by decide +kernel, rfl, by decide +kernel, by decide +kernel⟩
theorem ok_isRen {f fU : Addr} {fd fdU : FuncData} (F : FnP K "is_renaming" sIsRen f fd) (L : Lib K mg) (LP : LibP mg) (ld : mg "dict" = none) (FU : FnP K "are_unlike_names" sUnlike fU fdU) (gU : mg "are_unlike_names" = some (.ref fU)) (GU : FnOk P w K mg base CX0 2 fU fdU ["value"] (spUnlike K)) :
    FnOk P w K mg base CX0 3 f fd ["entries", "value"] (spIsRen K) := by
  have bU : Binds K fdU ["value"] [] := FU.bindsN fun _ _ _ _ _ _ us hl => match us, hl with | [_], _ => rfl
  refine okN F scIsRen (fun vs H Q E h => ?_) (fun cdv A outer s H vs Q E hr h => ?_)
  · obtain ⟨_, _, _, _, _, rfl, _⟩ := h
    rfl
  · obtain ⟨n, d, xs, ks, ws, rfl, hn, hd, p, l, lx, l1, nm, nd, k⟩ := h
    have hun := hr.un
    have hu1 : (A.deeper (envOfC "is_renaming" (defScope sIsRen) s.heap.objs.size f cdv)).units + 1 < cLine := by omega
    refine ⟨_, pss_cons (ps_if (PW.pt (pw_or (pt_not (pt_val (pe_callB call_isi (by rfl) LP.isi (by decide +kernel) (pa_cons (pv 1) (pa_cons (pe_bltn (v := .ty "dict") (by rfl) ld (by decide +kernel) rfl) pa_nil)))))
        (pw_or1 (pt_cmpR op_ne (pe_callB call_lenD (by rfl) L.len PySem.boot_len (pa_cons (pv 1) pa_nil)) (pe_callB call_len_seq (by rfl) L.len PySem.boot_len (pa_cons (pv 0) pa_nil)) (nomark _))))) (pss_one ps_never) pss_nil)
      (pss_one (ps_ret (pe_and (pe_callB (cr_all rfl) (by rfl) LP.all (by decide +kernel) (pa_cons
          (pe_lc (own := [("name", 2)]) (g := gName 2) (tt := tYes) (te := tDIn (tVar 2) (tVar 1)) rfl scIsRen.nd (pi_list (pv 0))
            (blkOk_by (N := nIsRen) (sc := defScope sIsRen) (by decide +kernel)) (fun _ _ _ _ _ => pg_name (i := 2) scIsRen.nd rfl (Or.inl rfl)) (fun _ _ _ _ _ => pts_nil)
            (fun _ _ _ _ _ => pe_cmp (pc_din hu1 (pv 2) (pv 1)) (by rfl))) pa_nil))
        (pe_one (pe_call GU hr (by rfl) gU FU.kp bU .nil pass0 (pa_cons (pe_listVals rfl (pv 1) (by rfl) LP.list (by decide +kernel)) pa_nil)))))), ?_⟩
    have lk : ks.length = xs.length := p.length_eq
    refine ⟨_, rfl, .ref d, .ty "dict", .type "dict", .type "dict", true, rfl, .ty _, .base (.dK hd), kit_ty (by decide +kernel), _, rfl, ?_⟩
    refine ⟨_, rfl, d, _, rfl, hd, _, rfl, n, _, rfl, .inl (SqL.of hn), rfl, ?_⟩
    rw [kvP_len l, List.length_map, lk, decide_eq_true rfl]
    refine ⟨false, rfl, ?_⟩
    refine ⟨_, rfl, n, rfl, ⟨_, SqL.of hn⟩, fun D hD => lc_list (K := K) (a := n) (xs := xs.map V.str) (fun i H' => H' D = some (.lst ((xs.take i).map fun _ => V.bl true)) ∧ Same H H') ⟨upd_same, sn hD⟩ (fun i H' _ h => SqL.of (h.2 _ _ hn)) ?_ ?_⟩
    · rintro i y H' hi ⟨q1, q2⟩
      rw [List.getElem?_map] at hi
      obtain ⟨z, hz, rfl⟩ := Option.map_eq_some_iff.mp hi
      have zk : z ∈ ks := p.mem_iff.mpr (List.mem_of_getElem? hz)
      refine ⟨rfl, _, rfl, _, rfl, d, _, rfl, DGet.k (k := .inr z) (q2 _ _ hd), ?_⟩
      rw [valV_ren l zk]
      refine ⟨_, q1, ?_, ?_, fun b o e => ?_⟩
      · refine small1000 ?_
        rw [List.length_map]
        have := List.length_take_le' i xs
        omega
      · rw [upd_same, List.take_succ, hz, List.map_append]
        rfl
      · rw [upd_ne (ne_of_none e hD)]
        exact q2 _ _ e
    · rintro H2 ⟨q1, q2⟩
      rw [List.length_map, List.take_length] at q1
      refine ⟨D, xs.map fun _ => true, rfl, SqL.of (by rw [q1, List.map_map]; rfl), true, ?_, iteT ?_⟩
      · rw [List.all_map]
        exact congrArg V.bl (List.all_eq_true.mpr fun _ _ => rfl)
      refine ⟨_, rfl, d, _, rfl, q2 _ _ hd, fun G nG => ?_⟩
      rw [kvP_vals l]
      refine ⟨.ref G, true, rfl, unl_names upd_same (by omega) nm nd (by omega), fun H3 s3 => ?_⟩
      exact k H3 (q2.trans ((sn nG).trans s3))
abbrev sRen : Stmt := methS 8
abbrev nRen : List Str := ["self", "names", "row", "name"]
theorem scRen : FnScope nRen ["self", "names"] (defScope sRen) := ⟨rfl, rfl, rfl, by decide +kernel, rfl, by decide +kernel, by decide +kernel⟩
theorem ok_ren {f fI : Addr} {fd fdI : FuncData} (F : FnM K "renamed" "Panel.renamed" sRen f fd) (LP : LibP mg) (PC : PanC K C) (M : Mk K C fI) (gP : mg "Panel" = some (.ref C)) (FI : FnM K "__init__" "Panel.__init__" sInit fI fdI) (GI : FnOk P w K mg base (L2.CX P w) 4 fI fdI ["self", "entries", "rows"] (spInit K C))
    (DR : Df P w K mg base 3 "is_renaming" sIsRen ["entries", "value"] (spIsRen K)) : FnOk P w K mg base CX0 6 f fd ["self", "names"] (spRen C) := by
  have bI : Binds K fdI ["self", "entries", "rows"] [] := FI.bindsN fun _ _ _ _ _ _ us hl => match us, hl with | [_, _, _], _ => rfl
  refine okN F scRen (fun vs H Q E h => ?_) (fun cdv A outer s H vs Q E hr h => ?_)
  · obtain ⟨_, _, _, _, _, _, _, rfl, _⟩ := h
    rfl
  · obtain ⟨a, d, xs, ks, ws, zs, rs, rfl, ⟨⟨dx, fs, Na, R, cs, h1, h2, h3, h4, h5, h6⟩, fre, le⟩, gd, hd, p, l, nm, nd, pz, so, k⟩ := h
    have hun := hr.un
    have hu1 : (A.deeper (envOfC "Panel.renamed" (defScope sRen) s.heap.objs.size f cdv)).units + 1 < cLine := by omega
    have lk : ks.length = xs.length := p.length_eq
    have l6 := gd.l6
    have l1 := gd.l1
    have l8 := gd.r8
    refine ⟨_, pss_cons (ps_if (pt_not (pt_val (pe_df DR (hr.mono (by decide)) (by rfl) (pa_cons (pe_fld (pv 0) rfl) (pa_cons (pv 1) pa_nil))))) (pss_one ps_never) pss_nil)
      (pss_one (ps_ret (pe_makeS M GI hr (by rfl) gP bI (fun σ => passAt takes_none5 σ) (pa_cons (pe_listVals rfl (pv 1) (by rfl) LP.list (by decide +kernel)) (pa_cons
        (pe_lc (own := [("row", 2)]) (g := gName 2) (tt := tYes) (te := tLc (iList K (tVar 2)) (gName 3) tYes (tDGet (tVar 1) (tVar 3)) [3]) rfl scRen.nd (pi_list (pe_fld (pv 0) rfl))
          (blkOk_by (N := nRen) (sc := defScope sRen) (by decide +kernel)) (fun _ _ _ _ _ => pg_name (i := 2) scRen.nd rfl (Or.inl rfl)) (fun _ _ _ _ _ => pts_nil)
          (fun _ _ _ _ _ => pe_lc (own := [("name", 3)]) (g := gName 3) (tt := tYes) (te := tDGet (tVar 1) (tVar 3)) (by rfl) scRen.nd (pi_list (pv 2))
            (blkOk_by (N := nRen) (sc := scRenIn) (by decide +kernel)) (fun _ _ _ _ _ => pg_name (i := 3) scRen.nd rfl (Or.inl rfl)) (fun _ _ _ _ _ => pts_nil) (fun _ _ _ _ _ => pe_dget hu1 (pv 1) (pv 3) (fun _ _ => rfl)))) pa_nil))))), ?_⟩
    refine ⟨_, rfl, a, C, dx, fs, _, rfl, h1, PC.cls, PC.nE, h2, _, rfl, Na, d, xs, ks, ws, rfl, h4, hd, p, l, by omega, by omega, nm, nd, fun H1 s1 => ⟨_, rfl, ?_⟩⟩
    refine ⟨_, rfl, d, _, rfl, s1 _ _ hd, fun D nD => ?_⟩
    rw [kvP_vals l]
    have s2 := s1.trans (sn nD (o := .lst (ws.map V.str)))
    have hD : upd H1 D (.lst (ws.map V.str)) D = some (.lst (ws.map V.str)) := upd_same
    generalize upd H1 D (.lst (ws.map V.str)) = H2 at s2 hD ⊢
    refine ⟨_, rfl, a, C, dx, fs, _, rfl, s2 _ _ h1, PC.cls, PC.nR, h3, R, rfl, ⟨_, SqL.of (s2 _ _ h5)⟩, fun D2 hD2 => lc_list (K := K) (a := R) (xs := cs.map V.ref)
      (fun i H' => ∃ ls : List Addr, H' D2 = some (.lst (ls.map V.ref)) ∧ RowsAt H' ls ((rs.take i).map fun r => r.map (ren ks ws)) ∧ (∀ c ∈ ls, H2 c = none ∧ c ≠ D2) ∧ Same H2 H') ⟨[], upd_same, .nil, (fun c hc => nomatch hc), sn hD2⟩ (fun i H' _ h => by obtain ⟨_, _, _, _, h⟩ := h; exact SqL.of (h _ _ (s2 _ _ h5))) ?_ ?_⟩
    · rintro i y H' hi ⟨ls, g1, g2, g3, g4⟩
      rw [List.getElem?_map] at hi
      obtain ⟨c, hc, rfl⟩ := Option.map_eq_some_iff.mp hi
      obtain ⟨r, hr1, hr2⟩ := h6.at hc
      have pr := gd.pr r (List.mem_of_getElem? hr1)
      have lr : r.length ≤ 7 := by rw [pr.length_eq]; exact l6
      refine ⟨rfl, _, rfl, c, rfl, ⟨_, SqL.of ((s2.trans g4) _ _ hr2)⟩, fun D3 hD3 => lc_list (K := K) (a := c) (xs := r.map V.str) (fun j H'' => H'' D3 = some (.lst (((r.take j).map (ren ks ws)).map V.str)) ∧ Same H' H'') ⟨upd_same, sn hD3⟩ (fun j H'' _ h => SqL.of (h.2 _ _ ((s2.trans g4) _ _ hr2))) ?_ ?_⟩
      · rintro j y H'' hj ⟨q3, q4⟩
        rw [List.getElem?_map] at hj
        obtain ⟨z, hz1, rfl⟩ := Option.map_eq_some_iff.mp hj
        have zk : z ∈ ks := p.mem_iff.mpr (pr.mem_iff.mp (List.mem_of_getElem? hz1))
        have hdz : DGet H'' d (.str z) (some (V.str (ren ks ws z))) := by
          have q := DGet.k (k := .inr z) (((s2.trans g4).trans q4) _ _ hd)
          rw [valV_ren l zk] at q
          exact q
        refine ⟨rfl, _, rfl, _, rfl, d, _, rfl, hdz, _, q3, small1000 ?_, ?_, fun b o eb => ?_⟩
        · rw [List.length_map, List.length_map]
          have := List.length_take_le' j r
          omega
        · rw [upd_same, List.take_succ, hz1, List.map_append, List.map_append]
          rfl
        · rw [upd_ne (ne_of_none eb hD3)]
          exact q4 _ _ eb
      · rintro H'' ⟨q3, q4⟩
        rw [List.length_map, List.take_length] at q3
        have nD32 : D3 ≠ D2 := fun q => by rw [q, g1] at hD3; cases hD3
        have tk2 : (rs.take (i + 1)).map (fun r => r.map (ren ks ws)) = (rs.take i).map (fun r => r.map (ren ks ws)) ++ [r.map (ren ks ws)] := by rw [List.take_succ, hr1, List.map_append]; rfl
        refine ⟨ls.map V.ref, q4 _ _ g1, small1000 ?_, ls ++ [D3], by rw [upd_same, List.map_append]; rfl, ?_, fun x hx => ?_, fun b o e => ?_⟩
        · rw [List.length_map, g2.len, List.length_map]
          have := List.length_take_le' i rs
          omega
        · rw [tk2]
          refine RowsAt.snoc ((g2.same q4).keep fun x hx o e => ?_) ?_
          · rw [upd_ne (g3 x hx).2]
            exact e
          · rw [upd_ne nD32]
            exact q3
        · rcases List.mem_append.mp hx with hx | hx
          · exact g3 x hx
          · rw [List.mem_singleton.mp hx]
            exact ⟨g4.free hD3, nD32⟩
        · rw [upd_ne (ne_of_none e hD2)]
          exact q4 _ _ (g4 _ _ e)
    · rintro H3 ⟨ls, g1, g2, g3, g4⟩
      rw [List.length_map, h6.len, List.take_length] at g2
      have g := gd.ren p l nm nd pz so
      have s3 := s2.trans g4
      refine make_ok (zs := ws) (xs := zs) (g4 _ _ hD) nm nd (by omega) (by omega) pz so g1 g2 g.pr g.r1 (by have := g.r8; omega) fun PN H4 s4 nPN pan _ fre2 => ?_
      exact k PN H4 (s3.trans s4) (s3.free nPN) ⟨pan, fre2.same new_sub, by rw [List.length_map]; exact le⟩
end
end K08

set_option maxHeartbeats 16000000
namespace K08
open PySem PySem.Spec PyProof.Rows L2 G1

theorem lists_nats {K : PySem.W.Frag} {H : Hp} {a c : Addr} {ns : List Nat} (ha : SqL K H a (natsV ns)) (hc : SqL K H c (natsV ns)) : Lists2 K H 0 (.ref a) (.ref c) true := by
  refine ⟨a, c, _, _, rfl, rfl, ha, hc, .inr ⟨rfl, fun _ => true, fun i x y hx hy => ?_, by simp⟩⟩
  rw [hx] at hy
  obtain rfl := Option.some.inj hy
  unfold natsV at hx
  rw [List.getElem?_map] at hx
  obtain ⟨j, _, rfl⟩ := Option.map_eq_some_iff.mp hx
  have e : eqV (.int (j : Int)) (.int (j : Int)) = true := by
    show ((j : Int) == (j : Int)) = true
    simp
  show EqW K H 0 (.int (j : Int)) (.int (j : Int)) true
  rw [← e]
  exact .flat rfl rfl
theorem lists_strs2 {K : PySem.W.Frag} {H : Hp} {a c : Addr} {xs : List Str} (ha : SqL K H a (xs.map V.str)) (hc : SqL K H c (xs.map V.str)) : Lists2 K H 0 (.ref a) (.ref c) true := by
  have q := lists_strs ha hc
  rwa [decide_eq_true rfl] at q
theorem sorted_ext {xs ys : List Str} (h1 : sortedS xs = true) (h2 : sortedS ys = true) (n1 : xs.Nodup) (n2 : ys.Nodup) (e : ∀ z, z ∈ xs ↔ z ∈ ys) : xs = ys := sorted_uniq h1 h2 ((List.perm_ext_iff_of_nodup n1 n2).mpr fun z => e z)

theorem NatsAt.at {H : Hp} {as : List Addr} {rs : List (List Nat)} (h : NatsAt H as rs) : ∀ {i : Nat} {c : Addr}, as[i]? = some c → ∃ ws, rs[i]? = some ws ∧ H c = some (.lst (natsV ws)) := by
  induction h with
  | nil => intro i c e; cases e
  | @cons a0 r0 as rs h0 _ ih =>
    intro i c e
    match i, e with
    | 0, e =>
      cases e
      exact ⟨r0, rfl, h0⟩
    | i + 1, e => exact ih e

theorem eqw_of {K : PySem.W.Frag} {H : Hp} {a c : Addr} (h : Lists2 K H 0 (.ref a) (.ref c) true) : EqW K H 1 (.ref a) (.ref c) true := by
  obtain ⟨_, _, us, ws, e1, e2, s1, s2, z⟩ := h
  cases e1
  cases e2
  by_cases q : a = c
  · subst q
    exact .same
  · rcases z with ⟨_, h⟩ | ⟨l, f, hf, hb⟩
    · cases h
    · rw [hb]
      exact .lists q s1 s2 l hf
theorem lists_natss {K : PySem.W.Frag} {H : Hp} {a c : Addr} {as cs : List Addr} {ns : List (List Nat)} (ha : H a = some (.lst (as.map V.ref))) (hc : H c = some (.lst (cs.map V.ref))) (h1 : NatsAt H as ns) (h2 : NatsAt H cs ns) : Lists2 K H 1 (.ref a) (.ref c) true := by
  refine ⟨a, c, _, _, rfl, rfl, SqL.of ha, SqL.of hc, .inr ⟨by rw [List.length_map, List.length_map, h1.len, h2.len], fun _ => true, fun i x y hx hy => ?_, by simp⟩⟩
  rw [List.getElem?_map] at hx hy
  obtain ⟨b, hb, rfl⟩ := Option.map_eq_some_iff.mp hx
  obtain ⟨d, hd, rfl⟩ := Option.map_eq_some_iff.mp hy
  obtain ⟨r, hr1, hr2⟩ := h1.at hb
  obtain ⟨t, ht1, ht2⟩ := h2.at hd
  rw [hr1] at ht1
  obtain rfl := Option.some.inj ht1
  exact eqw_of (lists_nats (SqL.of hr2) (SqL.of ht2))

theorem pan_eqO {K : PySem.W.Frag} {H : Hp} {C fE a c : Addr} {xs : List Str} {rs : List (List Str)} {Q : VK} (Y : PanY K C fE) (h1 : PanF H C a xs rs) (h2 : PanF H C c xs rs) (k : ∀ H', Same H H' → Q (.bl true) H') : rEqO K C (DPan K C) (.ref a) (.ref c) H Q := by
  obtain ⟨dx, fs, fr1, _⟩ := id h1.fre
  obtain ⟨dy, gs, fy1, _⟩ := id h2.fre
  exact ⟨a, dx, fs, .ref C, true, rfl, fr1, .ins fy1, Y.nm, ⟨a, xs, rs, rfl, h1.at_, .inl ⟨c, xs, rs, rfl, h2.at_, by rw [decide_eq_true rfl, decide_eq_true rfl]; rfl⟩⟩, k⟩
/-- a def called by names alone -/
theorem pe_dfN {X : Cx} {k : Nat} {x : Str} {st : Stmt} {ps : List Str} (ks : List Str) (idx : List Nat) {sp : Sp} {kws : List Keyword} {tk : TA} {p pos : Pos} (D : Df X.prog X.w X.K X.mg X.base k x st ps sp) (hr : Room k X.A) (hg : Gl X x) (hkw : PK X kws tk)
    (hB : ∀ f fd, FnP X.K x st f fd → KBn X.K fd ps 0 ks (fun us ws => gI idx us ws) (fun vs zs => gI idx vs zs)) (hall : (backToKw pos (keywordEach kws X.env)).all (·.1.isSome) = true := by rfl) (hks : (backToKw pos (keywordEach kws X.env)).filterMap (·.1) = ks := by rfl) (hdb : (x == ("__debug__" : Str)) = false := by decide)
    (hpl : ((backTo pos (starEach [] X.env)).any (·.1) || (backToKw pos (keywordEach kws X.env)).any (·.1.isNone)) = false := by rfl) : PE X (.Call (.Name x p) [] kws pos) (tCallN0 ks.length sp (fun vs zs => gI idx vs zs) E0 tk) := by
  obtain ⟨f, fd, F, g, G, b⟩ := D.ex
  exact pe_callN0 G hr hg g F.kp (hB f fd F) pass0 hkw hall hks hdb hpl
def jnew : List Str := ["cob", "ale", "bun"]
def jlot : List Str := ["ale"]
def jabc : List Str := ["a", "b", "c"]
theorem nm_of {xs : List Str} (h : xs.all isNm = true) : ∀ z ∈ xs, Nm z := fun z hz => isNm_iff.mp (List.all_eq_true.mp h z hz)
theorem jnew_perm : jnew.Perm jx := by
  show (["cob", "ale", "bun"] : List Str).Perm ["ale", "bun", "cob"]
  exact (List.perm_append_comm (l₁ := (["cob"] : List Str)) (l₂ := (["ale", "bun"] : List Str)))
theorem inV_true : ∀ {bs : List V}, (∀ v ∈ bs, v = .bl true) → inV (.bl false) bs = false := fun {bs} h => by
  unfold inV
  rw [List.any_eq_false]
  intro v hv q
  rw [h v hv] at q
  cases q
def spNR (C : Addr) : Sp := fun vs H Q _ => ∃ (a : Addr) (rs : List (List Str)), vs = [.ref a] ∧ PanF H C a jx rs ∧ Good jx rs ∧ rs.length = 2 ∧ ∀ H', Same H H' → Q (.bl true) H'
section
variable {P : Program} {w : World} {K : PySem.W.Frag} {mg : Str → Option Value} {base : Heap} {C fE fI fW fO fS fR : Addr} {fdI fdE fdW fdO fdS fdR : FuncData}
abbrev sNR : Stmt := top 48
abbrev nNR : List Str := ["_law_made", "_law_seen"]
theorem scNR : FnScope nNR ["_law_made"] (defScope sNR) := ⟨rfl, rfl, rfl, by decide +kernel, rfl, by decide +kernel, by decide +kernel⟩
theorem ok_namedR {f : Addr} {fd : FuncData} (F : FnP K "_law_named_right" sNR f fd) (L : Lib K mg) (LP : LibP mg) (Y : PanY K C fE) (M : Mk K C fI) (gP : mg "Panel" = some (.ref C)) (N : PanP P w K mg base C)
    (FI : FnM K "__init__" "Panel.__init__" sInit fI fdI) (GI : FnOk P w K mg base (L2.CX P w) 4 fI fdI ["self", "entries", "rows"] (spInit K C)) (FE : FnM K "__eq__" "Panel.__eq__" sEq fE fdE) (GE : FnOk P w K mg base CX0 1 fE fdE ["self", "other"] (spEqB (DPan K C)))
    (D0 : Df P w K mg base 6 "turned" sTurned ["panel"] (spTurned C)) (D1 : Df P w K mg base 2 "equal_rows" sEqR ["panel"] (spEqRows C)) (D2 : Df P w K mg base 6 "plain" sPlainP ["panel"] (spPlainP C)) (D3 : Df P w K mg base 5 "cards" sCards ["panel", "field"] (spCards C))
    (D4 : Df P w K mg base 2 "places" sPlaces ["panel", "entry"] (spPlaces C)) (D5 : Df P w K mg base 5 "named" sNamed ["panel", "at", "field"] (spNamed C)) (D6 : Df P w K mg base 5 "who" sWho ["panel", "field", "entry"] (spWho C)) (D7 : Df P w K mg base 3 "ahead" sAhead ["panel", "at", "entry"] (spAhead C))
    (FW : FnM K "with_row" "Panel.with_row" sWith fW fdW) (mW : Meth K C "with_row" fW) (GW : FnOk P w K mg base CX0 6 fW fdW ["self", "row"] (spWith C)) (FO : FnM K "without_row" "Panel.without_row" sWout fO fdO) (mO : Meth K C "without_row" fO) (GO : FnOk P w K mg base CX0 6 fO fdO ["self", "at"] (spWout C))
    (FS : FnM K "struck" "Panel.struck" sStruck fS fdS) (mS : Meth K C "struck" fS) (GS : FnOk P w K mg base CX0 6 fS fdS ["self", "lot"] (spStruck C)) (FR : FnM K "renamed" "Panel.renamed" sRen fR fdR) (mR : Meth K C "renamed" fR) (GR : FnOk P w K mg base CX0 6 fR fdR ["self", "names"] (spRen C)) :
    FnOk P w K mg base CX0 7 f fd ["_law_made"] (spNR C) := by
  have bI : Binds K fdI ["self", "entries", "rows"] [] := FI.bindsN fun _ _ _ _ _ _ us hl => match us, hl with | [_, _, _], _ => rfl
  have bE : Binds K fdE ["self", "other"] [] := FE.bindsN fun _ _ _ _ _ _ us hl => match us, hl with | [_, _], _ => rfl
  have bS : Binds K fdS ["self", "lot"] [] := FS.bindsN fun _ _ _ _ _ _ us hl => match us, hl with | [_, _], _ => rfl
  have kI : KBn K fdI ["self", "entries", "rows"] 1 ["rows", "entries"] (fun us ws => gI [0, 2, 1] us ws) (fun vs zs => gI [0, 2, 1] vs zs) := G1.FunD.kbP FI 1 _ _ fun _ _ _ _ _ _ us ws l1 l2 => match us, ws, l1, l2 with | [_], [_, _], _, _ => rfl
  have kW : KBn K fdW ["self", "row"] 1 ["row"] (fun us ws => gI [0, 1] us ws) (fun vs zs => gI [0, 1] vs zs) := G1.FunD.kbP FW 1 _ _ fun _ _ _ _ _ _ us ws l1 l2 => match us, ws, l1, l2 with | [_], [_], _, _ => rfl
  have kO : KBn K fdO ["self", "at"] 1 ["at"] (fun us ws => gI [0, 1] us ws) (fun vs zs => gI [0, 1] vs zs) := G1.FunD.kbP FO 1 _ _ fun _ _ _ _ _ _ us ws l1 l2 => match us, ws, l1, l2 with | [_], [_], _, _ => rfl
  have kS : KBn K fdS ["self", "lot"] 1 ["lot"] (fun us ws => gI [0, 1] us ws) (fun vs zs => gI [0, 1] vs zs) := G1.FunD.kbP FS 1 _ _ fun _ _ _ _ _ _ us ws l1 l2 => match us, ws, l1, l2 with | [_], [_], _, _ => rfl
  have kR : KBn K fdR ["self", "names"] 1 ["names"] (fun us ws => gI [0, 1] us ws) (fun vs zs => gI [0, 1] vs zs) := G1.FunD.kbP FR 1 _ _ fun _ _ _ _ _ _ us ws l1 l2 => match us, ws, l1, l2 with | [_], [_], _, _ => rfl
  refine okN F scNR (fun vs H Q E h => ?_) (fun cdv A outer s H vs Q E hr h => ?_)
  · obtain ⟨_, _, rfl, _⟩ := h
    rfl
  · obtain ⟨a, rs, rfl, pan, gd, l2, k⟩ := h
    have hun := hr.un
    have nd := scNR.nd
    have hu1 : (A.deeper (envOfC "_law_named_right" (defScope sNR) s.heap.objs.size f cdv)).units + (0 + 1) < cLine := by omega
    have hu2 : (A.deeper (envOfC "_law_named_right" (defScope sNR) s.heap.objs.size f cdv)).units + (1 + 1) < cLine := by omega
    have r1 : Room 1 (A.deeper (envOfC "_law_named_right" (defScope sNR) s.heap.objs.size f cdv)) := hr.mono (by decide)
    have r2 : Room 2 (A.deeper (envOfC "_law_named_right" (defScope sNR) s.heap.objs.size f cdv)) := hr.mono (by decide)
    have r3 : Room 3 (A.deeper (envOfC "_law_named_right" (defScope sNR) s.heap.objs.size f cdv)) := hr.mono (by decide)
    have r5 : Room 5 (A.deeper (envOfC "_law_named_right" (defScope sNR) s.heap.objs.size f cdv)) := hr.mono (by decide)
    refine' ⟨_, pss_cons ?s0 (pss_cons ?s1 (pss_cons ?s2 (pss_cons ?s3 (pss_cons ?s4 (pss_cons ?s5 (pss_cons ?s6 (pss_cons ?s7 (pss_cons ?s8 (pss_cons ?s9 (pss_cons ?s10 (pss_one ?s11))))))))))), ?_⟩
    case s0 => exact (ps_set (i := 1) nd rfl (Or.inl rfl) (pe_lst (pa_cons (pe_cmpR (op_eqOwn GE r1 Y.eq Y.fn bE) (pe_dfN ["panel"] [0] D0 hr (by rfl) (pk_cons (pv 0) pk_nil) (fun _ _ F => G1.FunD.kbP F 0 _ _ fun _ _ _ _ _ _ us ws l1 l2 => match us, ws, l1, l2 with | [], [_], _, _ => rfl)) (pe_df D0 hr (by rfl) (pa_cons (pv 0) pa_nil)) (nomark _)) (pa_cons (pe_cmpR (op_eqW (n := 1) hu2) (pe_dfN ["panel"] [0] D1 r2 (by rfl) (pk_cons (pv 0) pk_nil) (fun _ _ F => G1.FunD.kbP F 0 _ _ fun _ _ _ _ _ _ us ws l1 l2 => match us, ws, l1, l2 with | [], [_], _, _ => rfl)) (pe_df D1 r2 (by rfl) (pa_cons (pv 0) pa_nil)) (nomark _)) pa_nil))))
    case s1 => exact (ps_expr (pe_bm PySem.F.plainAttrs_list PySem.F.slot_list_append PySem.F.type_list_append mt_append (pv 1) (pa_cons (pe_cmpR (op_eqOwn GE r1 Y.eq Y.fn bE) (pe_dfN ["panel"] [0] D2 hr (by rfl) (pk_cons (pv 0) pk_nil) (fun _ _ F => G1.FunD.kbP F 0 _ _ fun _ _ _ _ _ _ us ws l1 l2 => match us, ws, l1, l2 with | [], [_], _, _ => rfl)) (pe_df D2 hr (by rfl) (pa_cons (pv 0) pa_nil)) (nomark _)) pa_nil)))
    case s2 => exact (ps_expr (pe_bm PySem.F.plainAttrs_list PySem.F.slot_list_append PySem.F.type_list_append mt_append (pv 1) (pa_cons (pe_cmpR (op_eqW (n := 0) hu1) (pe_dfN ["field", "panel"] [1, 0] D3 r5 (by rfl) (pk_cons (pe_lst (pa_cons pe_str (pa_cons pe_str pa_nil))) (pk_cons (pv 0) pk_nil)) (fun _ _ F => G1.FunD.kbP F 0 _ _ fun _ _ _ _ _ _ us ws l1 l2 => match us, ws, l1, l2 with | [], [_, _], _, _ => rfl)) (pe_df D3 r5 (by rfl) (pa_cons (pv 0) (pa_cons (pe_lst (pa_cons pe_str (pa_cons pe_str pa_nil))) pa_nil))) (nomark _)) pa_nil)))
    case s3 => exact (ps_expr (pe_bm PySem.F.plainAttrs_list PySem.F.slot_list_append PySem.F.type_list_append mt_append (pv 1) (pa_cons (pe_cmpR (op_eqW (n := 0) hu1) (pe_dfN ["entry", "panel"] [1, 0] D4 r2 (by rfl) (pk_cons pe_str (pk_cons (pv 0) pk_nil)) (fun _ _ F => G1.FunD.kbP F 0 _ _ fun _ _ _ _ _ _ us ws l1 l2 => match us, ws, l1, l2 with | [], [_, _], _, _ => rfl)) (pe_df D4 r2 (by rfl) (pa_cons (pv 0) (pa_cons pe_str pa_nil))) (nomark _)) pa_nil)))
    case s4 => exact (ps_expr (pe_bm PySem.F.plainAttrs_list PySem.F.slot_list_append PySem.F.type_list_append mt_append (pv 1) (pa_cons (pe_cmpR op_eq (pe_dfN ["field", "at", "panel"] [2, 1, 0] D5 r5 (by rfl) (pk_cons (pe_lst (pa_cons pe_str (pa_cons pe_str pa_nil))) (pk_cons pe_int (pk_cons (pv 0) pk_nil))) (fun _ _ F => G1.FunD.kbP F 0 _ _ fun _ _ _ _ _ _ us ws l1 l2 => match us, ws, l1, l2 with | [], [_, _, _], _, _ => rfl)) (pe_df D5 r5 (by rfl) (pa_cons (pv 0) (pa_cons pe_int (pa_cons (pe_lst (pa_cons pe_str (pa_cons pe_str pa_nil))) pa_nil)))) (nomark _)) pa_nil)))
    case s5 => exact (ps_expr (pe_bm PySem.F.plainAttrs_list PySem.F.slot_list_append PySem.F.type_list_append mt_append (pv 1) (pa_cons (pe_cmpR (op_eqW (n := 0) hu1) (pe_dfN ["entry", "field", "panel"] [2, 1, 0] D6 r5 (by rfl) (pk_cons pe_str (pk_cons (pe_lst (pa_cons pe_str (pa_cons pe_str pa_nil))) (pk_cons (pv 0) pk_nil))) (fun _ _ F => G1.FunD.kbP F 0 _ _ fun _ _ _ _ _ _ us ws l1 l2 => match us, ws, l1, l2 with | [], [_, _, _], _, _ => rfl)) (pe_df D6 r5 (by rfl) (pa_cons (pv 0) (pa_cons (pe_lst (pa_cons pe_str (pa_cons pe_str pa_nil))) (pa_cons pe_str pa_nil)))) (nomark _)) pa_nil)))
    case s6 => exact (ps_expr (pe_bm PySem.F.plainAttrs_list PySem.F.slot_list_append PySem.F.type_list_append mt_append (pv 1) (pa_cons (pe_cmpR (op_eqW (n := 0) hu1) (pe_dfN ["entry", "at", "panel"] [2, 1, 0] D7 r3 (by rfl) (pk_cons pe_str (pk_cons pe_int (pk_cons (pv 0) pk_nil))) (fun _ _ F => G1.FunD.kbP F 0 _ _ fun _ _ _ _ _ _ us ws l1 l2 => match us, ws, l1, l2 with | [], [_, _, _], _, _ => rfl)) (pe_df D7 r3 (by rfl) (pa_cons (pv 0) (pa_cons pe_int (pa_cons pe_str pa_nil)))) (nomark _)) pa_nil)))
    case s7 => exact (ps_expr (pe_bm PySem.F.plainAttrs_list PySem.F.slot_list_append PySem.F.type_list_append mt_append (pv 1) (pa_cons (pe_cmpR (op_eqOwn GE r1 Y.eq Y.fn bE) (pe_makeK0 (E := fun _ _ _ => False) M GI r5 (by rfl) gP kI (fun pins σ H s e s' I c => passAt (W := fun _ _ _ _ => False) takes_none5 σ pins H s e s' I c) (pk_cons (pe_mt (pv 0) N.cls N.rw r1) (pk_cons (pe_mt (pv 0) N.cls N.en r1) pk_nil))) (pv 0) (nomark _)) pa_nil)))
    case s8 => exact (ps_expr (pe_bm PySem.F.plainAttrs_list PySem.F.slot_list_append PySem.F.type_list_append mt_append (pv 1) (pa_cons (pe_cmpR (op_eqOwn GE r1 Y.eq Y.fn bE) (pe_methN0 (pe_methN0 (pv 0) N.cls mW GW hr kW pass0 (pk_cons (pe_lst (pa_cons pe_str (pa_cons pe_str (pa_cons pe_str pa_nil)))) pk_nil)) N.cls mO GO hr kO pass0 (pk_cons pe_int pk_nil)) (pv 0) (nomark _)) pa_nil)))
    case s9 => exact (ps_expr (pe_bm PySem.F.plainAttrs_list PySem.F.slot_list_append PySem.F.type_list_append mt_append (pv 1) (pa_cons (pe_cmpR (op_eqOwn GE r1 Y.eq Y.fn bE) (pe_methN0 (pv 0) N.cls mS GS hr kS pass0 (pk_cons (pe_lst (pa_cons pe_str pa_nil)) pk_nil)) (pe_meth (pv 0) N.cls mS GS hr bS .nil pass0 (pa_cons (pe_lst (pa_cons pe_str pa_nil)) pa_nil)) (nomark _)) pa_nil)))
    case s10 => exact (ps_expr (pe_bm PySem.F.plainAttrs_list PySem.F.slot_list_append PySem.F.type_list_append mt_append (pv 1) (pa_cons (pe_cmpR (op_eqW (n := 0) hu1) (pe_mt (pe_methN0 (pv 0) N.cls mR GR hr kR pass0 (pk_cons (pe_disp (pps_cons pe_str pe_str (pps_cons pe_str pe_str (pps_cons pe_str pe_str pps_nil))) rfl rfl (by simp) (by decide)) pk_nil)) N.cls N.en r1) (pe_lst (pa_cons pe_str (pa_cons pe_str (pa_cons pe_str pa_nil)))) (nomark _)) pa_nil)))
    case s11 => exact (ps_ret (pe_cmpR op_notIn_seq pe_bl (pv 1) (by rfl)))
    obtain ⟨dx, gs, fr1, fr2, fr3, fr4, fr5, fr6, fr7⟩ := id pan.fre
    have e1 : 1 ≤ sizeLine := by decide
    have e2 : 2 ≤ sizeLine := by decide
    have e3 : 3 ≤ sizeLine := by decide
    obtain ⟨q0, q1, rfl⟩ : ∃ q0 q1, rs = [q0, q1] := by
      match rs, l2 with
      | [q0, q1], _ => exact ⟨q0, q1, rfl⟩
    have lac : lotB jx jac = true := by decide +kernel
    have fld : ∀ {H' : Hp} {f : Addr}, H' f = some (.lst (jac.map V.str)) → FieldAt H' f jx jac := fun h => ⟨h, lac, by decide, by decide⟩
    have bx : ∀ r ∈ [q0, q1], ("bun" : Str) ∈ r := fun r hr => (gd.pr r hr).mem_iff.mpr (by decide)
    have le60 : ([q0, q1] : List (List Str)).length ≤ 40 := by show 2 ≤ 40; decide
    -- one and two
    refine ⟨_, rfl, rfl, a, jx, _, rfl, pan, gd, fun P1 H1 s1 _ p1 => ?_⟩
    refine ⟨_, rfl, a, jx, _, rfl, pan.same s1, gd, fun P2 H2 s2 _ p2 => pan_eqO Y (p1.same s2) p2 fun H3 s3 => ?_⟩
    have z3 := (s1.trans s2).trans s3
    refine ⟨_, rfl, rfl, a, jx, _, rfl, pan.same z3, gd, fun D4 g4 H4 s4 _ hD4 hg4 _ => ?_⟩
    refine ⟨_, rfl, a, jx, _, rfl, pan.same (z3.trans s4), gd, fun D5 g5 H5 s5 _ hD5 hg5 _ => ⟨true, lists_natss (s5 _ _ hD4) hD5 (hg4.same s5) hg5, e2, fun S nS => ?_⟩⟩
    have z5 := (z3.trans s4).trans s5
    have nS0 : H S = none := z5.free nS
    have z := z5.trans (sn nS (o := .lst [.bl true, .bl true]))
    have hS : upd H5 S (.lst [.bl true, .bl true]) S = some (.lst [.bl true, .bl true]) := upd_same
    generalize upd H5 S (.lst [.bl true, .bl true]) = H6 at z hS ⊢
    clear s1 s2 s3 s4 s5 z3 z5 p1 p2 hD4 hg4 hD5 hg5 nS
    have nxt : ∀ {H' : Hp} {o : HO}, Same H H' → Same H (upd H' S o) := fun {H'} {o} s' b u e => by rw [upd_ne (ne_of_none e nS0)]; exact s' _ _ e
    -- three
    refine ⟨_, rfl, .inl ⟨rfl, _, SqL.of hS⟩, _, rfl, rfl, a, jx, _, rfl, pan.same z, gd, fun P1 H1 s1 _ p1 => ?_⟩
    refine ⟨_, rfl, a, jx, _, rfl, (pan.same z).same s1, gd, fun P2 H2 s2 _ p2 => pan_eqO Y (p1.same s2) p2 fun H3 s3 => ?_⟩
    refine ⟨S, _, .bl true, rfl, rfl, ((s1.trans s2).trans s3) _ _ hS, small1000 (by decide), ?_⟩
    replace z := nxt (o := .lst ([.bl true, .bl true] ++ [.bl true])) (z.trans ((s1.trans s2).trans s3))
    replace hS : upd H3 S (.lst ([.bl true, .bl true] ++ [.bl true])) S = some (.lst ([.bl true, .bl true, .bl true])) := upd_same
    generalize upd H3 S (.lst ([.bl true, .bl true] ++ [.bl true])) = H7 at z hS ⊢
    clear s1 s2 s3 p1 p2
    -- four
    refine ⟨_, rfl, .inl ⟨rfl, _, SqL.of hS⟩, e2, fun f1 nf1 => ⟨_, rfl, rfl, a, f1, jx, jac, _, rfl, (pan.same z).same (sn nf1), fld upd_same, gd.pr, fun ys D1 H1 s1 nD1 hD1 so1 nd1 m1 _ => ?_⟩⟩
    have v1 := (sn nf1 (o := .lst (jac.map V.str))).trans s1
    refine ⟨_, rfl, e2, fun f2 nf2 => ⟨a, f2, jx, jac, _, rfl, ((pan.same z).same v1).same (sn nf2), fld upd_same, gd.pr, fun ys2 D2 H2 s2 nD2 hD2 so2 nd2 m2 _ => ?_⟩⟩
    have v2 := (sn nf2 (o := .lst (jac.map V.str))).trans s2
    obtain rfl : ys = ys2 := sorted_ext so1 so2 nd1 nd2 fun x => by rw [m1 x, m2 x]
    refine ⟨true, lists_strs2 (SqL.of (v2 _ _ hD1)) (SqL.of hD2), S, _, .bl true, rfl, rfl, (v1.trans v2) _ _ hS, small1000 (by decide), ?_⟩
    replace z := nxt (o := .lst ([.bl true, .bl true, .bl true] ++ [.bl true])) (z.trans (v1.trans v2))
    replace hS : upd H2 S (.lst ([.bl true, .bl true, .bl true] ++ [.bl true])) S = some (.lst ([.bl true, .bl true, .bl true, .bl true])) := upd_same
    generalize upd H2 S (.lst ([.bl true, .bl true, .bl true] ++ [.bl true])) = H8 at z hS ⊢
    clear s1 s2 v1 v2 nf1 nf2 nD1 nD2 hD1 hD2 so1 so2 nd1 nd2 m1 m2
    -- five
    refine ⟨_, rfl, .inl ⟨rfl, _, SqL.of hS⟩, _, rfl, rfl, a, jx, _, "bun", rfl, pan.same z, bx, by decide, fun D1 H1 s1 nD1 hD1 => ?_⟩
    refine ⟨_, rfl, a, jx, _, "bun", rfl, (pan.same z).same s1, bx, by decide, fun D2 H2 s2 nD2 hD2 => ?_⟩
    refine ⟨true, lists_nats (SqL.of (s2 _ _ hD1)) (SqL.of hD2), S, _, .bl true, rfl, rfl, (s1.trans s2) _ _ hS, small1000 (by decide), ?_⟩
    replace z := nxt (o := .lst ([.bl true, .bl true, .bl true, .bl true] ++ [.bl true])) (z.trans (s1.trans s2))
    replace hS : upd H2 S (.lst ([.bl true, .bl true, .bl true, .bl true] ++ [.bl true])) S = some (.lst (List.replicate 5 (.bl true))) := upd_same
    generalize upd H2 S (.lst ([.bl true, .bl true, .bl true, .bl true] ++ [.bl true])) = H9 at z hS ⊢
    clear s1 s2 nD1 nD2 hD1 hD2
    -- six
    obtain ⟨y1, hy1⟩ := (fld (upd_same (a := S) (H := H9) (o := .lst (jac.map V.str)))).fst (gd.pr q1 (by simp))
    refine ⟨_, rfl, .inl ⟨rfl, _, SqL.of hS⟩, e2, fun f1 nf1 => ⟨_, rfl, rfl, a, f1, 1, jx, jac, _, q1, y1, rfl, (pan.same z).same (sn nf1), fld upd_same, rfl, hy1, fun H1 s1 => ?_⟩⟩
    have v1 := (sn nf1 (o := .lst (jac.map V.str))).trans s1
    refine ⟨_, rfl, e2, fun f2 nf2 => ⟨a, f2, 1, jx, jac, _, q1, y1, rfl, ((pan.same z).same v1).same (sn nf2), fld upd_same, rfl, hy1, fun H2 s2 => ⟨rfl, ?_⟩⟩⟩
    have v2 := (sn nf2 (o := .lst (jac.map V.str))).trans s2
    rw [decide_eq_true (rfl : V.str y1 = V.str y1)]
    refine ⟨S, _, .bl true, rfl, rfl, (v1.trans v2) _ _ hS, small1000 (by decide), ?_⟩
    replace z := nxt (o := .lst (List.replicate 5 (.bl true) ++ [.bl true])) (z.trans (v1.trans v2))
    replace hS : upd H2 S (.lst (List.replicate 5 (.bl true) ++ [.bl true])) S = some (.lst (List.replicate 6 (.bl true))) := upd_same
    generalize upd H2 S (.lst (List.replicate 5 (.bl true) ++ [.bl true])) = H10 at z hS ⊢
    clear s1 s2 v1 v2 nf1 nf2 hy1
    -- seven
    refine ⟨_, rfl, .inl ⟨rfl, _, SqL.of hS⟩, e2, fun f1 nf1 => ⟨_, rfl, rfl, a, f1, jx, jac, _, "ale", rfl, (pan.same z).same (sn nf1), fld upd_same, gd.pr, by decide, fun D1 H1 s1 nD1 hD1 => ?_⟩⟩
    have v1 := (sn nf1 (o := .lst (jac.map V.str))).trans s1
    refine ⟨_, rfl, e2, fun f2 nf2 => ⟨a, f2, jx, jac, _, "ale", rfl, ((pan.same z).same v1).same (sn nf2), fld upd_same, gd.pr, by decide, fun D2 H2 s2 nD2 hD2 => ?_⟩⟩
    have v2 := (sn nf2 (o := .lst (jac.map V.str))).trans s2
    refine ⟨true, lists_nats (SqL.of (v2 _ _ hD1)) (SqL.of hD2), S, _, .bl true, rfl, rfl, (v1.trans v2) _ _ hS, small1000 (by decide), ?_⟩
    replace z := nxt (o := .lst (List.replicate 6 (.bl true) ++ [.bl true])) (z.trans (v1.trans v2))
    replace hS : upd H2 S (.lst (List.replicate 6 (.bl true) ++ [.bl true])) S = some (.lst (List.replicate 7 (.bl true))) := upd_same
    generalize upd H2 S (.lst (List.replicate 6 (.bl true) ++ [.bl true])) = H11 at z hS ⊢
    clear s1 s2 v1 v2 nf1 nf2 nD1 nD2 hD1 hD2
    -- eight
    have lq0 : q0.length ≤ 60 := by have := (gd.pr q0 (by simp)).length_eq; have := gd.l6; omega
    refine ⟨_, rfl, .inl ⟨rfl, _, SqL.of hS⟩, _, rfl, rfl, a, 0, jx, _, q0, "bun", rfl, pan.same z, rfl, lq0, by decide, bx q0 (by simp), fun ys D1 H1 s1 nD1 hD1 so1 py1 => ?_⟩
    refine ⟨_, rfl, a, 0, jx, _, q0, "bun", rfl, (pan.same z).same s1, rfl, lq0, by decide, bx q0 (by simp), fun ys2 D2 H2 s2 nD2 hD2 so2 py2 => ?_⟩
    obtain rfl : ys = ys2 := sorted_uniq so1 so2 (py1.trans py2.symm)
    refine ⟨true, lists_strs2 (SqL.of (s2 _ _ hD1)) (SqL.of hD2), S, _, .bl true, rfl, rfl, (s1.trans s2) _ _ hS, small1000 (by decide), ?_⟩
    replace z := nxt (o := .lst (List.replicate 7 (.bl true) ++ [.bl true])) (z.trans (s1.trans s2))
    replace hS : upd H2 S (.lst (List.replicate 7 (.bl true) ++ [.bl true])) S = some (.lst (List.replicate 8 (.bl true))) := upd_same
    generalize upd H2 S (.lst (List.replicate 7 (.bl true) ++ [.bl true])) = H12 at z hS ⊢
    clear s1 s2 nD1 nD2 hD1 hD2 so1 so2 py1 py2
    -- nine
    refine ⟨_, rfl, .inl ⟨rfl, _, SqL.of hS⟩, _, rfl, a, dx, gs, rfl, z _ _ fr1, fr3, a, jx, _, rfl, (pan.same z).at_, pan.le, fun R as H1 s1 nR hR has _ _ => ?_⟩
    refine ⟨_, rfl, a, dx, gs, rfl, (z.trans s1) _ _ fr1, fr2, a, jx, _, rfl, ((pan.same z).same s1).at_, fun N1 H2 s2 nN hN => ⟨rfl, rfl, make_ok (zs := jx) (xs := jx) hN gd.nm gd.nd gd.l1 (by decide) (.refl _) gd.so (s2 _ _ hR) (has.same s2) gd.pr gd.r1 le60 fun PN H3 s3 nPN pan3 _ fre3 => ?_⟩⟩
    have v3 := (s1.trans s2).trans s3
    refine ⟨_, rfl, pan_eqO Y ⟨pan3, fre3.same new_sub, pan.le⟩ ((pan.same z).same v3) fun H4 s4 => ?_⟩
    refine ⟨S, _, .bl true, rfl, rfl, (v3.trans s4) _ _ hS, small1000 (by decide), ?_⟩
    replace z := nxt (o := .lst (List.replicate 8 (.bl true) ++ [.bl true])) (z.trans (v3.trans s4))
    replace hS : upd H4 S (.lst (List.replicate 8 (.bl true) ++ [.bl true])) S = some (.lst (List.replicate 9 (.bl true))) := upd_same
    generalize upd H4 S (.lst (List.replicate 8 (.bl true) ++ [.bl true])) = H13 at z hS ⊢
    clear s1 s2 s3 s4 v3 nR hR has nN hN nPN pan3 fre3
    -- ten
    have gdW : Good jx ([q0, q1] ++ [jnew]) := ⟨gd.nm, gd.nd, gd.l1, gd.l6, gd.so, fun y hy => by
      rcases List.mem_append.mp hy with h | h
      · exact gd.pr y h
      · rw [List.mem_singleton.mp h]
        exact jnew_perm, by show 1 ≤ 3; decide, by show 3 ≤ 10; decide⟩
    refine ⟨_, rfl, .inl ⟨rfl, _, SqL.of hS⟩, _, rfl, a, dx, gs, rfl, z _ _ fr1, fr5, e3, fun r nr => ⟨rfl, a, r, jx, jnew, _, rfl, (pan.same z).same (sn nr), gd, upd_same, jnew_perm, fun PW H1 s1 _ pw => ?_⟩⟩
    have v1 := (sn nr (o := .lst (jnew.map V.str))).trans s1
    obtain ⟨dw, gw2, w1, w2, w3, w4, w5, w6, w7⟩ := id pw.fre
    refine ⟨PW, dw, gw2, rfl, w1, w6, rfl, PW, 2, jx, _, rfl, pw, gdW, (by show 2 < 3; decide), (by show 2 ≤ 3; decide), fun PO H2 s2 _ po => ?_⟩
    refine ⟨_, rfl, pan_eqO Y (rs := [q0, q1]) po ((pan.same z).same (v1.trans s2)) fun H4 s4 => ?_⟩
    have v4 := (v1.trans s2).trans s4
    refine ⟨S, _, .bl true, rfl, rfl, v4 _ _ hS, small1000 (by decide), ?_⟩
    replace z := nxt (o := .lst (List.replicate 9 (.bl true) ++ [.bl true])) (z.trans v4)
    replace hS : upd H4 S (.lst (List.replicate 9 (.bl true) ++ [.bl true])) S = some (.lst (List.replicate 10 (.bl true))) := upd_same
    generalize upd H4 S (.lst (List.replicate 9 (.bl true) ++ [.bl true])) = H14 at z hS ⊢
    clear s1 s2 s4 v1 v4 nr pw po w1 w2 w3 w4 w5 w6 w7 gdW
    -- eleven
    have lot1 : lotB jx jlot = true := by decide +kernel
    refine ⟨_, rfl, .inl ⟨rfl, _, SqL.of hS⟩, _, rfl, a, dx, gs, rfl, z _ _ fr1, fr4, e1, fun l nl => ⟨rfl, a, l, jx, jlot, _, rfl, ((pan.same z).same (sn nl)).at_, upd_same, lot1, by decide, by decide, gd.nm, gd.nd, by decide, gd.so, ⟨"bun", by decide, by decide⟩, gd.pr, gd.r1, le60, fun P1 H1 s1 _ p1 => ?_⟩⟩
    have v1 := (sn nl (o := .lst (jlot.map V.str))).trans s1
    refine ⟨_, rfl, a, dx, gs, rfl, (z.trans v1) _ _ fr1, fr4, e1, fun l2 nl2 => ⟨a, l2, jx, jlot, _, rfl, (((pan.same z).same v1).same (sn nl2)).at_, upd_same, lot1, by decide, by decide, gd.nm, gd.nd, by decide, gd.so, ⟨"bun", by decide, by decide⟩, gd.pr, gd.r1, le60, fun P2 H2 s2 _ p2 => ?_⟩⟩
    have v2 := (sn nl2 (o := .lst (jlot.map V.str))).trans s2
    refine pan_eqO Y (p1.same v2) p2 fun H4 s4 => ?_
    have v4 := (v1.trans v2).trans s4
    refine ⟨S, _, .bl true, rfl, rfl, v4 _ _ hS, small1000 (by decide), ?_⟩
    replace z := nxt (o := .lst (List.replicate 10 (.bl true) ++ [.bl true])) (z.trans v4)
    replace hS : upd H4 S (.lst (List.replicate 10 (.bl true) ++ [.bl true])) S = some (.lst (List.replicate 11 (.bl true))) := upd_same
    generalize upd H4 S (.lst (List.replicate 10 (.bl true) ++ [.bl true])) = H15 at z hS ⊢
    clear s1 s2 s4 v1 v2 v4 nl nl2 p1 p2
    -- twelve
    refine ⟨_, rfl, .inl ⟨rfl, _, SqL.of hS⟩, _, rfl, a, dx, gs, rfl, z _ _ fr1, fr7, fun d nd0 => ⟨upd_same, [(.inr "ale", .str "a"), (.inr "bun", .str "b"), (.inr "cob", .str "c")], rfl, (show 3 ≤ 15 by decide), ?_⟩⟩
    have sd : Same H15 (upd (upd H15 d (.dK [])) d (.dK (mergeK [] [(.inr "ale", .str "a"), (.inr "bun", .str "b"), (.inr "cob", .str "c")]))) := fun b u e => by rw [upd_ne (ne_of_none e nd0), upd_ne (ne_of_none e nd0)]; exact e
    have hd : upd (upd H15 d (.dK [])) d (.dK (mergeK [] [(.inr "ale", .str "a"), (.inr "bun", .str "b"), (.inr "cob", .str "c")])) d = some (.dK (kvP jx jabc)) := upd_same
    generalize upd (upd H15 d (.dK [])) d (.dK (mergeK [] [(.inr "ale", .str "a"), (.inr "bun", .str "b"), (.inr "cob", .str "c")])) = H16 at sd hd ⊢
    refine ⟨rfl, a, d, jx, jx, jabc, jabc, _, rfl, (pan.same z).same sd, gd, hd, .refl _, rfl, nm_of (by decide +kernel), by decide +kernel, .refl _, by decide +kernel, fun PR H1 s1 _ pr => ?_⟩
    obtain ⟨dr, gr, t1, t2, _⟩ := id pr.fre
    refine ⟨PR, dr, gr, rfl, t1, t2, PR, jabc, _, rfl, pr.at_, fun D1 H2 s2 nD1 hD1 => ⟨e3, fun E1 nE1 => ?_⟩⟩
    have sE := sn nE1 (o := .lst (jabc.map V.str))
    refine ⟨true, lists_strs2 (xs := jabc) (SqL.of (sE _ _ hD1)) (SqL.of upd_same), S, _, .bl true, rfl, rfl, (((sd.trans s1).trans s2).trans sE) _ _ hS, small1000 (by decide), ?_⟩
    replace z := nxt (o := .lst (List.replicate 11 (.bl true) ++ [.bl true])) (z.trans (((sd.trans s1).trans s2).trans sE))
    have hS2 : upd (upd H2 E1 (.lst (jabc.map V.str))) S (.lst (List.replicate 11 (.bl true) ++ [.bl true])) S = some (.lst (List.replicate 12 (.bl true))) := upd_same
    exact ⟨_, rfl, S, List.replicate 12 (.bl true), rfl, .inl (SqL.of hS2), rfl, rfl, k _ z⟩
end
end K08

set_option maxHeartbeats 16000000
namespace K08
open PySem PySem.Spec PyProof.Rows L2 G1
theorem panO_of {K : PySem.W.Frag} {C : Addr} (h4 : ∀ T : String, T = "NoneType" ∨ T = "int" ∨ T = "list" ∨ T = "tuple" → PySem.W.kitOne K (.type T) (.ref C) = some false) (h3 : ∀ T ∈ (["str", "dict", "bool"] : List String), PySem.W.kitOne K (.type T) (.ref C) = some false) : PanO K C := by
  refine ⟨fun T hT => ?_⟩
  rcases hT with h | h | h | h | h | h | h
  · exact h4 T (.inl h)
  · exact h4 T (.inr (.inl h))
  · exact h4 T (.inr (.inr (.inl h)))
  · exact h4 T (.inr (.inr (.inr h)))
  · exact h3 T (by rw [h]; simp)
  · exact h3 T (by rw [h]; simp)
  · exact h3 T (by rw [h]; simp)
def spLaw (K : PySem.W.Frag) : Sp := fun vs H Q _ => ∃ (a : Addr) (ns : List Int), vs = [.ref a] ∧ SqL K H a (ns.map V.int) ∧ ∀ H', Q (.bl true) H'
def jrow (t : Nat) : List Str := jx.drop t ++ jx.take t
theorem jrow_perm (t : Nat) : (jrow t).Perm jx := by
  unfold jrow
  refine List.perm_append_comm.trans ?_
  rw [List.take_append_drop]
theorem jx_good (t : Nat) : Good jx [jrow t, (jrow t).reverse] := ⟨nm_of (by decide +kernel), by decide +kernel, by decide, by decide, by decide +kernel, fun y hy => by
  have h : y = jrow t ∨ y = (jrow t).reverse := by
    simp only [List.mem_cons, List.not_mem_nil, or_false] at hy
    exact hy
  rcases h with rfl | rfl
  · exact jrow_perm t
  · exact (jrow t).reverse_perm.trans (jrow_perm t), by show 1 ≤ 2; decide, by show 2 ≤ 10; decide⟩
section
variable {P : Program} {w : World} {K : PySem.W.Frag} {mg : Str → Option Value} {base : Heap} {C fI : Addr} {fdI : FuncData}
abbrev sLaw : Stmt := top 50
abbrev nLaw : List Str := ["_law_script", "_law_turn", "_law_cell_here", "_law_base", "_law_first", "_law_made", "_law_doors_here", "_law_door"]
theorem scLaw : FnScope nLaw ["_law_script"] (defScope sLaw) := ⟨rfl, rfl, rfl, by decide +kernel, rfl, by decide +kernel, by decide +kernel⟩
theorem ok_law {f : Addr} {fd : FuncData} (F : FnP K "law" sLaw f fd) (L : Lib K mg) (M : Mk K C fI) (gP : mg "Panel" = some (.ref C)) (FI : FnM K "__init__" "Panel.__init__" sInit fI fdI) (GI : FnOk P w K mg base (L2.CX P w) 4 fI fdI ["self", "entries", "rows"] (spInit K C))
    (DCe : Df P w K mg base 1 "_law_cell" sCell ["_law_script", "_law_spot"] (spCell K)) (DDo : Df P w K mg base 1 "_law_doors" sDoors [] spDoors) (DDR : Df P w K mg base 9 "_law_door_right" sDR ["_law_door", "_law_words", "_law_made"] (spDR C))
    (DNR : Df P w K mg base 7 "_law_named_right" sNR ["_law_made"] (spNR C)) : FnG P w K mg base 10 f fd ["_law_script"] (spLaw K) := by
  have bI : Binds K fdI ["self", "entries", "rows"] [] := FI.bindsN fun _ _ _ _ _ _ us hl => match us, hl with | [_, _, _], _ => rfl
  refine gdN F scLaw (fun vs H Q E h => ?_) (fun cdv A outer s H vs Q Ex hg hr h => ?_)
  · obtain ⟨_, _, rfl, _⟩ := h
    rfl
  · obtain ⟨a, ns, rfl, hS, k⟩ := h
    have hu := hr.units
    have nd := scLaw.nd
    have hu1 : (A.deeper (envOfC "law" (defScope sLaw) s.heap.objs.size f cdv)).units + (0 + 1) < cLine := by omega
    have r1 : Room 1 (A.deeper (envOfC "law" (defScope sLaw) s.heap.objs.size f cdv)) := hr.mono (by decide)
    have r5 : Room 5 (A.deeper (envOfC "law" (defScope sLaw) s.heap.objs.size f cdv)) := hr.mono (by decide)
    have r7 : Room 7 (A.deeper (envOfC "law" (defScope sLaw) s.heap.objs.size f cdv)) := hr.mono (by decide)
    refine' ⟨_, pss_cons (ps_for PassesOwn.never rfl (pi_range1 rfl L.range (pa_cons (pe_callB (call_max2 rfl) (by rfl) L.max (by decide +kernel) (pa_cons pe_int (pa_cons (pe_callB (call_min2 rfl) (by rfl) L.min (by decide +kernel) (pa_cons pe_int (pa_cons (pe_callB call_len_seq (by rfl) L.len PySem.boot_len (pa_cons (pv 0) pa_nil)) pa_nil))) pa_nil))) pa_nil))
        (pg_name (i := 1) nd rfl (Or.inl rfl)) (pss_cons ?b0 (pss_cons ?b1 (pss_cons ?b2 (pss_cons ?b3 (pss_cons ?b4 (pss_one ?b5))))))) (pss_one (ps_ret pe_bl)), ?_⟩
    case b0 => exact (ps_set (i := 2) nd rfl (Or.inl rfl) (pe_df DCe r1 (by rfl) (pa_cons (pv 0) (pa_cons (pv 1) pa_nil))))
    case b1 => exact (ps_set (i := 3) nd rfl (Or.inl rfl) (pe_lst (pa_cons pe_str (pa_cons pe_str (pa_cons pe_str pa_nil)))))
    case b2 => exact (ps_set (i := 4) nd rfl (Or.inl rfl) (pe_op op_cat (pe_slice sl_list (pv 3) (po_some (pe_op op_mod (pv 2) pe_int)) po_none) (pe_slice sl_list (pv 3) po_none (po_some (pe_op op_mod (pv 2) pe_int)))))
    case b3 => exact (ps_asg (pe_tup (pa_cons (pe_makeS M GI r5 (by rfl) gP bI (fun σ => passAt takes_none5 σ) (pa_cons (pv 3) (pa_cons (pe_lst (pa_cons (pv 4) (pa_cons (pe_revL (pv 4)) pa_nil))) pa_nil))) (pa_cons (pe_df0 DDo r1 (by rfl)) pa_nil)))
          (pg_tup (n := 2) (by rfl) (pgs_cons (pg_name (i := 5) nd rfl (Or.inr rfl)) (pgs_cons (pg_name (i := 6) nd rfl (Or.inr rfl)) pgs_nil))))
    case b4 => exact (ps_if (pt_cmpR (op_neW (n := 0) hu1) (pe_lc (own := [("_law_door", 7)]) (g := gName 7) (tt := tNot (tB (tCall (spDR C) [] E0 (tCons (tVar 7) (tCons (tOp (rIxL K) (tVar 6) (tVar 7)) (tCons (tVar 5) tNil)))))) (te := tVar 7) rfl nd
          (pi_range1 (by rfl) L.range (pa_cons (pe_callB call_len_seq (by rfl) L.len PySem.boot_len (pa_cons (pv 6) pa_nil)) pa_nil))
          (blkOk_by (N := nLaw) (sc := defScope sLaw) (by decide +kernel)) (fun _ _ _ _ _ => pg_name (i := 7) scLaw.nd rfl (Or.inl rfl))
          (fun _ _ _ _ _ => pts_one (pt_not (pt_val (pe_df DDR hr (by rfl) (pa_cons (pv 7) (pa_cons (pe_ix ix_list (pv 6) (pv 7) (fun _ _ => rfl)) (pa_cons (pv 5) pa_nil))))))) (fun _ _ _ _ _ => pv 7)) (pe_lst pa_nil) (nomark _)) (pss_one ps_never) pss_nil)
    case b5 => exact (ps_if (pt_not (pt_val (pe_df DNR r7 (by rfl) (pa_cons (pv 5) pa_nil)))) (pss_one ps_never) pss_nil)
    have e2 : 2 ≤ sizeLine := by decide
    have e3 : 3 ≤ sizeLine := by decide
    refine ⟨_, rfl, a, _, rfl, .inl hS, _, _, rfl, _, _, rfl, ?_⟩
    generalize hj : (if (if ((ns.map V.int).length : Int) < 3 then ((ns.map V.int).length : Int) else 3) > 1 then (if ((ns.map V.int).length : Int) < 3 then ((ns.map V.int).length : Int) else 3) else (1 : Int)) = j
    have j1 : j ≤ 3 := by
      rw [← hj]
      split <;> (try split) <;> omega
    have j0 : 1 ≤ j := by
      rw [← hj]
      split <;> (try split) <;> omega
    refine ⟨j, rfl, by omega, by omega, for_range (lo := 0) (n := j.toNat) (fun i σ H' => ∃ o1 o2 o3 o4 o5 o6 : Option V, σ = [some (.ref a), o1, o2, o3, o4, o5, o6, none] ∧ Same H H')
      ⟨none, none, none, none, none, none, rfl, Same.refl _⟩ ?_ ?_⟩
    · rintro i σ H1 hi ⟨o1, o2, o3, o4, o5, o6, rfl, g⟩
      have hi3 : i ≤ 3 := by omega
      refine ⟨_, rfl, _, rfl, a, (0 : Int) + (i : Int), ns, rfl, g.seq hS, by omega, by omega, fun m H2 s2 => ?_⟩
      obtain ⟨t, ht⟩ := Int.eq_ofNat_of_zero_le (Int.emod_nonneg m (show (3 : Int) ≠ 0 by decide))
      have t3 : t ≤ 3 := by have := Int.emod_lt_of_pos m (show (0 : Int) < 3 by decide); omega
      refine ⟨e3, fun B nB => ?_⟩
      have sB := sn nB (o := .lst (jx.map V.str))
      have hB : upd H2 B (.lst (jx.map V.str)) B = some (.lst (jx.map V.str)) := upd_same
      rw [show upd H2 B (.lst [.str "ale", .str "bun", .str "cob"]) = upd H2 B (.lst (jx.map V.str)) from rfl]
      generalize upd H2 B (.lst (jx.map V.str)) = HB at sB hB ⊢
      refine ⟨_, rfl, _, rfl, _, _, rfl, rfl, (show (0 : Int) < 3 by decide), _, rfl, B, _, rfl, SqL.of hB, fun S1 nS1 => ?_⟩
      rw [ht, cutV_tail (by rw [List.length_map]; exact t3), ← List.map_drop]
      have u1 := sn nS1 (o := .lst ((jx.drop t).map V.str))
      refine ⟨_, rfl, _, rfl, _, _, rfl, rfl, (show (0 : Int) < 3 by decide), _, rfl, B, _, rfl, SqL.of (u1 _ _ hB), fun S2 nS2 => ?_⟩
      rw [ht, cut_any (m := t), ← List.map_take]
      have u2 := sn nS2 (o := .lst ((jx.take t).map V.str))
      have lj : (jx.drop t).length ≤ 3 ∧ (jx.take t).length ≤ 3 := by
        rw [List.length_drop, List.length_take]
        show 3 - t ≤ 3 ∧ min t 3 ≤ 3
        omega
      refine ⟨S1, S2, _, _, rfl, rfl, u2 _ _ upd_same, upd_same, Nat.le_of_lt (small1000 (by rw [List.length_map, List.length_map]; omega)), fun R1 nR1 => ?_⟩
      rw [← List.map_append]
      have u3 := (u1.trans u2).trans (sn nR1 (o := .lst ((jrow t).map V.str)))
      have hR1 := upd_same (a := R1) (o := HO.lst ((jrow t).map V.str)) (H := upd (upd HB S1 (.lst ((jx.drop t).map V.str))) S2 (.lst ((jx.take t).map V.str)))
      have hB3 := u3 _ _ hB
      have z3 := (g.trans s2).trans (sB.trans u3)
      have ej : jx.drop t ++ jx.take t = jrow t := rfl
      rw [ej]
      generalize upd (upd (upd HB S1 (.lst ((jx.drop t).map V.str))) S2 (.lst ((jx.take t).map V.str))) R1 (.lst ((jrow t).map V.str)) = H3 at z3 hB3 hR1 ⊢
      clear sB u1 u2 u3 nS1 nS2 nR1 nB hB lj
      refine ⟨_, rfl, _, rfl, _, rfl, R1, _, rfl, SqL.of hR1, fun R2 nR2 => ?_⟩
      rw [← List.map_reverse]
      refine ⟨e2, fun RL nRL => ?_⟩
      have u4 := sn nR2 (o := .lst ((jrow t).reverse.map V.str))
      have hR2 := upd_same (a := R2) (o := HO.lst ((jrow t).reverse.map V.str)) (H := H3)
      have u5 := sn nRL (o := .lst ([R1, R2].map V.ref))
      have hRL := upd_same (a := RL) (o := HO.lst ([R1, R2].map V.ref)) (H := upd H3 R2 (.lst ((jrow t).reverse.map V.str)))
      have gd := jx_good t
      refine make_ok (zs := jx) (xs := jx) (as := [R1, R2]) (rs := [jrow t, (jrow t).reverse]) ((u4.trans u5) _ _ hB3) gd.nm gd.nd gd.l1 (by decide) (.refl _) gd.so hRL (.cons ((u4.trans u5) _ _ hR1) (.cons (u5 _ _ hR2) .nil)) gd.pr gd.r1 (by show 2 ≤ 40; decide) fun PN H4 s4 nPN pan _ fre => ?_
      have pf : PanF H4 C PN jx [jrow t, (jrow t).reverse] := ⟨pan, fre.same new_sub, by show 2 ≤ 60; decide⟩
      have z4 := z3.trans ((u4.trans u5).trans s4)
      clear u4 u5 hR2 hRL hB3 hR1 z3 s4 nPN pan fre nR2 nRL
      refine ⟨rfl, fun D ds H5 s5 nD hD hds => ⟨e2, fun T nT => ⟨T, _, rfl, SqT.of upd_same, rfl, _, _, rfl, _, _, rfl, rfl, ?_⟩⟩⟩
      have sT := sn nT (o := .tup [.ref PN, .ref D])
      have hD6 := sT _ _ hD
      have hds6 := hds.same sT
      have pf6 := pf.same (s5.trans sT)
      have z6 := z4.trans (s5.trans sT)
      generalize upd H5 T (.tup [.ref PN, .ref D]) = H6 at hD6 hds6 pf6 z6 ⊢
      clear sT s5 nT nD hD hds pf z4
      have ld : ds.length = 8 := by rw [hds6.len]; rfl
      refine ⟨_, rfl, D, _, rfl, .inl (SqL.of hD6), ?_⟩
      rw [List.length_map, ld]
      refine ⟨8, rfl, by decide, by decide, fun X nX => lc_range (lo := 0) (n := 8) (fun i H' => H' X = some (.lst []) ∧ Same H6 H') ⟨upd_same, sn nX⟩ ?_ ?_⟩
      · rintro d H7 hd ⟨q1, q2⟩
        have hw : jwords[d]? = some ((dW d).map Wd.str) := by
          unfold jwords
          rw [List.getElem?_map, List.getElem?_range hd]
          rfl
        obtain ⟨c, hc1, hc2⟩ := hds6.adr hw
        refine ⟨rfl, _, rfl, _, rfl, _, rfl, D, _, _, .ref c, rfl, rfl, SqL.of (q2 _ _ hD6), (by rw [Int.zero_add]; exact atI_nat (by rw [List.getElem?_map, hc1]; rfl)), _, rfl, d, c, PN, _, (by rw [Int.zero_add]; rfl), hd, q2 _ _ hc2, pf6.same q2, gd, rfl, fun H8 s8 => ⟨_, rfl, iteF ⟨s8 _ _ q1, q2.trans s8⟩⟩⟩
      · rintro H7 ⟨q1, q2⟩
        refine ⟨Nat.zero_le _, fun X2 nX2 => ⟨true, lists_strs2 (xs := []) (SqL.of ((sn nX2) _ _ q1)) (SqL.of upd_same), _, rfl, iteF ?_⟩⟩
        have z7 := q2.trans (sn nX2 (o := .lst []))
        refine ⟨_, rfl, PN, _, rfl, pf6.same z7, gd, rfl, fun H8 s8 => ⟨_, rfl, iteF ?_⟩⟩
        exact ⟨_, _, _, _, _, _, rfl, z6.trans (z7.trans s8)⟩
    · rintro σ H1 ⟨o1, o2, o3, o4, o5, o6, rfl, g⟩
      exact k H1
end
end K08

set_option maxHeartbeats 4000000
namespace K08
open PySem PySem.Spec PyProof.Rows L2 G1
/-! ### what the head's run tells of the classes, as truth values -/
def exB (K : PySem.W.Frag) (C : Addr) : Bool :=
  He.eqO (PySem.W.findIn K (.ref C) "__getattribute__") (some (some (.builtin "BaseException.__getattribute__"))) && (He.eqO (PySem.W.findIn K (.ref C) "__getattr__") (some none) &&
  (decide (PySem.W.subIn K (.ref C) (.type "BaseException") = some true) && (PySem.W.hasDictIn K C && (He.eqO (PySem.W.findIn K (.ref C) "__class__") (some (some (.builtin "object.__class__"))) &&
  (He.eqO (PySem.W.specialIn K (.builtin "object.__class__") "__get__") (some (some (.builtin "getset_descriptor.__get__"))) && (decide (PySem.W.takesIn K (.builtin "object.__class__") = some true) &&
  decide (PySem.W.mroIn K C (.type "object") = some true)))))))
theorem exB_ok {K : PySem.W.Frag} {C : Addr} (h : exB K C = true) : ExcC K C := by
  obtain ⟨h1, h⟩ := He.ba h
  obtain ⟨h2, h⟩ := He.ba h
  obtain ⟨h3, h⟩ := He.ba h
  obtain ⟨h4, h⟩ := He.ba h
  obtain ⟨h5, h⟩ := He.ba h
  obtain ⟨h6, h⟩ := He.ba h
  obtain ⟨h7, h8⟩ := He.ba h
  exact ⟨He.eqO_ok h1, He.eqO_ok h2, of_decide_eq_true h3, h4, He.eqO_ok h5, He.eqO_ok h6, of_decide_eq_true h7, of_decide_eq_true h8⟩
def clsB (K : PySem.W.Frag) (C : Addr) : Bool := match K.lookup C with
  | some ⟨.type c, _, .cls cd, sl⟩ => (match cd.mro, sl.toList with
    | .ref C' :: bm, [_, _, _, _, some (.builtin n), _] => decide (c = "type") && (decide (C' = C) && (decide (n = "ValueError.__new__") && (!cd.hasDel && (cd.hasDict && PySem.HandSPX.refsVE bm))))
    | _, _ => false)
  | _ => false
theorem clsB_ok {K : PySem.W.Frag} {C : Addr} (h : clsB K C = true) : ∃ nm q N bs bm sn sub ab col dd k0 k1 k2 k3 k5, K.lookup C = some (excClassObj nm q C N bs bm true sn sub ab col dd k0 k1 k2 k3 k5 "ValueError.__new__") ∧ PySem.HandSPX.refsVE bm = true := by
  unfold clsB at h
  split at h
  · rename_i c dd cd sl ho
    split at h
    · rename_i C' bm k0 k1 k2 k3 n k5 hm hs
      obtain ⟨h1, h⟩ := He.ba h
      obtain ⟨h2, h⟩ := He.ba h
      obtain ⟨h3, h⟩ := He.ba h
      obtain ⟨h4, h⟩ := He.ba h
      obtain ⟨h5, h6⟩ := He.ba h
      have e1 := of_decide_eq_true h1
      have e2 := of_decide_eq_true h2
      have e3 := of_decide_eq_true h3
      subst e1 e2 e3
      obtain ⟨nm0, bs, mro, ns, qn, hd, sn, sub, ab, col, del⟩ := cd
      dsimp only at hm h4 h5
      subst hm h5
      have e4 : del = false := by simpa using h4
      subst e4
      have es : sl = #[k0, k1, k2, k3, some (.builtin "ValueError.__new__"), k5] := by
        obtain ⟨l⟩ := sl
        simp only at hs
        rw [hs]
      subst es
      exact ⟨nm0, qn, ns, bs, bm, sn, sub, ab, col, dd, k0, k1, k2, k3, k5, ho, h6⟩
    · cases h
  · cases h
def ecB (K : PySem.W.Frag) (x : Str) : Bool :=
  clsB K (ga K x) && (He.eqO (PySem.W.findIn K (.ref (ga K x)) "__setattr__") (some (some (.builtin "object.__setattr__"))) && (decide (PySem.W.typeIn K (.ref (ga K x)) = some (.type "type")) && (PySem.W.keepIn K (.ref (ga K x)) &&
  (He.eqO (PySem.W.findIn K (.ref (ga K x)) "value") (some none) && (He.eqO (PySem.W.findIn K (.ref (ga K x)) "__init__") (some (some (.ref (He.ma K (ga K x) "__init__")))) && decide (PySem.W.typeIn K (.ref (He.ma K (ga K x) "__init__")) = some (.type "function")))))))
theorem ecB_ok {K : PySem.W.Frag} {x : Str} (h : ecB K x = true) (e : ExcC K (ga K x)) : EC K (ga K x) (He.ma K (ga K x) "__init__") := by
  obtain ⟨h1, h⟩ := He.ba h
  obtain ⟨h2, h⟩ := He.ba h
  obtain ⟨h3, h⟩ := He.ba h
  obtain ⟨h4, h⟩ := He.ba h
  obtain ⟨h5, h⟩ := He.ba h
  obtain ⟨h6, h7⟩ := He.ba h
  exact ⟨⟨clsB_ok h1, He.eqO_ok h2, e.hs, of_decide_eq_true h3, h4⟩, e, He.eqO_ok h5, He.eqO_ok h6, of_decide_eq_true h7⟩
/-! ### Panel -/
def four : List String := ["NoneType", "int", "list", "tuple"]
def panB (K : PySem.W.Frag) : Bool :=
  (He.Fa.cls "Panel").ok K && ((He.Fa.noat "Panel" "_entries").ok K && ((He.Fa.noat "Panel" "_rows").ok K && ((He.Fa.meth "Panel" "entries").ok K && ((He.Fa.meth "Panel" "rows").ok K && ((He.Fa.meth "Panel" "__len__").ok K && ((He.Fa.meth "Panel" "__eq__").ok K && ((He.Fa.mkr "Panel").ok K &&
  (He.eqO (PySem.W.findIn K (.ref (ga K "Panel")) "__class__") (some (some (.builtin "object.__class__"))) && (He.eqO (PySem.W.specialIn K (.builtin "object.__class__") "__get__") (some (some (.builtin "getset_descriptor.__get__"))) &&
  (decide (PySem.W.takesIn K (.builtin "object.__class__") = some true) && (decide (PySem.W.mroIn K (ga K "Panel") (.type "object") = some true) && (decide (PySem.W.kitOne K (.ref (ga K "Panel")) (.ref (ga K "Panel")) = some true) &&
  ((four.all fun T => decide (PySem.W.kitOne K (.type T) (.ref (ga K "Panel")) = some false)) && (He.eqO (PySem.W.findIn K (.ref (ga K "Panel")) "__ne__") (some (some (.builtin "object.__ne__"))) && (decide (PySem.W.subIn K (.ref (ga K "Panel")) (.type "object") = some true) &&
  (PySem.W.notFirst K (ga K "Panel") (.ref (ga K "Panel")) && four.all fun T => PySem.W.notFirst K (ga K "Panel") (.type T)))))))))))))))))
theorem four_of {T : String} (h : T = "NoneType" ∨ T = "int" ∨ T = "list" ∨ T = "tuple") : T ∈ four := by
  unfold four
  rcases h with rfl | rfl | rfl | rfl <;> simp
structure PanHd (K : PySem.W.Frag) : Prop where
  y : PanY K (ga K "Panel") (He.ma K (ga K "Panel") "__eq__")
  en : Meth K (ga K "Panel") "entries" (He.ma K (ga K "Panel") "entries")
  rw : Meth K (ga K "Panel") "rows" (He.ma K (ga K "Panel") "rows")
  ln : Meth K (ga K "Panel") "__len__" (He.ma K (ga K "Panel") "__len__")
  mkr : Mk K (ga K "Panel") (He.ma K (ga K "Panel") "__init__")
theorem panB_ok {K : PySem.W.Frag} (h : panB K = true) : PanHd K := by
  obtain ⟨h1, h⟩ := He.ba h
  obtain ⟨h2, h⟩ := He.ba h
  obtain ⟨h3, h⟩ := He.ba h
  obtain ⟨h4, h⟩ := He.ba h
  obtain ⟨h5, h⟩ := He.ba h
  obtain ⟨h6, h⟩ := He.ba h
  obtain ⟨h7, h⟩ := He.ba h
  obtain ⟨h8, h⟩ := He.ba h
  obtain ⟨h9, h⟩ := He.ba h
  obtain ⟨h10, h⟩ := He.ba h
  obtain ⟨h11, h⟩ := He.ba h
  obtain ⟨h12, h⟩ := He.ba h
  obtain ⟨h13, h⟩ := He.ba h
  obtain ⟨h14, h⟩ := He.ba h
  obtain ⟨h15, h⟩ := He.ba h
  obtain ⟨h16, h⟩ := He.ba h
  obtain ⟨h17, h18⟩ := He.ba h
  have mq := He.meth_ok h7
  have pc : PanC K (ga K "Panel") := ⟨He.cls_ok h1, He.noat_ok h2, He.noat_ok h3⟩
  have px : PanX K (ga K "Panel") := { toPanC := pc, cc := He.eqO_ok h9, sg := He.eqO_ok h10, tk := of_decide_eq_true h11, mo := of_decide_eq_true h12, me := of_decide_eq_true h13, no := fun T hT => of_decide_eq_true (List.all_eq_true.mp h14 T (four_of hT)) }
  exact ⟨{ toPanX := px, eq := mq.at_, fn := mq.fn, ne := He.eqO_ok h15, ob := of_decide_eq_true h16, nm := h17, nt := fun T hT => List.all_eq_true.mp h18 T (four_of hT) }, He.meth_ok h4, He.meth_ok h5, He.meth_ok h6, He.mkr_ok h8⟩
/-! ### all -/
def errsL : List (Nat × Str) := [(2, "InvalidEntries"), (4, "InvalidRows"), (5, "InvalidPanel"), (6, "InvalidField"), (7, "UnknownEntry"), (9, "InvalidCount")]
def errs : List Str := errsL.map (·.2)
def frees : List Str := ["sum", "max", "min", "len", "range", "zip", "enumerate", "int", "bool", "list", "set", "sorted", "all", "isinstance", "str", "repr", "dict", "tuple", "any", "reversed"]
def allL : List (Nat × Str) := ([(13, "is_name"), (14, "is_count"), (15, "is_ascending"), (16, "are_unlike_names"), (17, "is_lot"), (18, "is_field"), (19, "is_row"), (20, "are_rows"), (21, "check_entries"), (22, "check_row"), (23, "check_rows"), (24, "check_entry"), (25, "check_position"), (26, "check_field"), (29, "is_renaming"), (30, "check_panel"), (31, "first_there"), (32, "cards_on"), (33, "named"), (34, "cards")] : List (Nat × Str)) ++ ([(35, "who"), (36, "ahead"), (37, "places"), (38, "turned"), (39, "equal_rows"), (40, "plain"), (42, "_law_asked"), (43, "_law_caught"), (44, "_law_doors"), (45, "_law_odds"), (46, "_law_good"), (47, "_law_door_right"), (48, "_law_named_right"), (49, "_law_cell"), (50, "law")] : List (Nat × Str))
def xmeths : List Str := ["with_row", "without_row", "struck", "renamed"]
def globs : List Str := errs ++ ((["Panel"] : List Str) ++ allL.map (·.2))
def caught : List Str := ["InvalidPanel", "InvalidCount", "InvalidField", "UnknownEntry"]
def kits : List String := ["str", "dict", "bool"]
def extraB (K : PySem.W.Frag) : Bool := (caught.all fun x => caught.all fun y => decide (PySem.W.exmOne K (.ref (ga K x)) (.ref (ga K y)) = some (decide (x = y)))) && kits.all fun T => decide (PySem.W.kitOne K (.type T) (.ref (ga K "Panel")) = some false)
def allB (K : PySem.W.Frag) : Bool :=
  (frees.all fun x => (He.Fa.free x).ok K) && ((He.Fa.int "LONGEST_NAME" 8).ok K && ((globs.all fun x => (He.Fa.glo x).ok K) && ((errs.all fun x => exB K (ga K x)) && ((errs.all fun x => ecB K x) && (panB K && (xmeths.all (fun m => (He.Fa.meth "Panel" m).ok K) && extraB K))))))
/-! ### the defs -/
def initS (i : Nat) : Stmt := match top i with
  | .ClassDef _ _ _ body .. => body.getD 0 (.Pass ⟨0, 0, 0, 0⟩)
  | s => s
def dInit (i : Nat) (x : Str) : He.DefD := ⟨(x, some "__init__"), "__init__", x ++ ".__init__", defArgs (initS i), defBody (initS i), defScope (initS i), [.non], []⟩
def dDef (p : Nat × Str) : He.DefD := ⟨(p.2, none), p.2, p.2, defArgs (top p.1), defBody (top p.1), defScope (top p.1), [], []⟩
def methL : List (Nat × Str) := [(0, "__init__"), (1, "entries"), (2, "rows"), (3, "__len__"), (4, "__eq__"), (5, "with_row"), (6, "without_row"), (7, "struck"), (8, "renamed")]
def dMeth (p : Nat × Str) : He.DefD := ⟨("Panel", some p.2), p.2, "Panel." ++ p.2, defArgs (methS p.1), defBody (methS p.1), defScope (methS p.1), [], []⟩
def fns : List He.DefD := (errsL.map fun p => dInit p.1 p.2) ++ (methL.map dMeth ++ allL.map dDef)
end K08

set_option maxHeartbeats 0
namespace K08
open PySem PySem.Spec PyProof.Rows L2 G1
abbrev AlM : Type := Bool × List He.FnW
def obsM (K : PySem.W.Frag) : AlM := (allB K && fns.all fun d => d.ok K, fns.map fun d => He.fnW K d.at_)
def valM : AlM := (true, fns.map He.DefD.val)
def obsG (g : Addr → Option Obj) : AlM := obsM (He.frG g (He.asD g 5))
def hk : PySem.W.Hook where
  α := AlM
  obs := fun s => obsG s.heap.get?
  val := fun _ => valM
  says := fun _ h => ∃ K : PySem.W.Frag, K.In h ∧ obsM K = valM
  of := fun _ _ e => ⟨_, He.frG_in, e⟩
  keeps := fun _ _ _ ⟨K, hK, c⟩ k => ⟨K, PySem.W.Frag.In.keeps hK k, c⟩
def ob (s : PySem.W.SharedT) : AlM := obsG (HandSHeadRun.getT s)
theorem ob_eq (s : PySem.W.SharedT) : ob s = hk.obs s.abs := by
  have e : HandSHeadRun.getT s = s.abs.heap.get? := funext (HandSHeadRun.getT_eq s)
  unfold ob
  rw [e]
  rfl
abbrev R : PySem.W.OpenRow := PySem.W.OpenLaw.row PySem.Challenge.rw_cardpanel_k08_panels_refused_and_by_name
def others : List Str := (["ShowError", "InvalidEntries", "InvalidRow", "InvalidRows", "InvalidPanel", "InvalidField", "UnknownEntry", "InvalidLot", "InvalidCount", "LastRow", "LONGEST_NAME", "is_name", "is_count", "is_ascending", "are_unlike_names", "is_lot", "is_field", "is_row", "are_rows", "check_entries"] : List Str) ++ (["check_row", "check_rows", "check_entry", "check_position", "check_field", "Panel", "is_renaming", "check_panel", "first_there", "cards_on", "named", "cards", "who", "ahead", "places", "turned", "equal_rows", "plain", "_law_asked", "_law_caught"] : List Str) ++ (["_law_doors", "_law_odds", "_law_good", "_law_door_right", "_law_named_right", "_law_cell"] : List Str)
theorem run (w : World) : HandSHeadRun.RunEq R (PySem.W.view R.prog [50]) hk ob 20000 others w := by
  intro os
  kernel_rfl
end K08

set_option maxHeartbeats 8000000
namespace K08
open PySem PySem.Spec PyProof.Rows L2 G1
theorem all_of {α : Type} {p : α → Bool} {l : List α} (h : l.all p = true) {x : α} (hx : x ∈ l) : p x = true := List.all_eq_true.mp h x hx
theorem fun_of {K : PySem.W.Frag} (c : obsM K = valM) {d : He.DefD} (h : d ∈ fns) : ∃ fd, FunD K d.name d.qual d.params d.body d.scope (d.dvs K) (d.kws K) (He.fAd K d.at_) fd := by
  have c1 : (allB K && fns.all fun d => d.ok K) = true := congrArg (fun z : AlM => z.1) c
  have c2 : fns.map (fun d => He.fnW K d.at_) = fns.map He.DefD.val := congrArg (fun z : AlM => z.2) c
  obtain ⟨i, hi, e⟩ := List.mem_iff_getElem.mp h
  have e2 : (fns.map fun d => He.fnW K d.at_)[i]? = (fns.map He.DefD.val)[i]? := by rw [c2]
  rw [List.getElem?_map, List.getElem?_map, List.getElem?_eq_getElem hi, e] at e2
  exact He.DefD.funD (Option.some.inj e2) (all_of (He.ba c1).2 h)
theorem init_in (j : Fin 6) : dInit (errsL.getD j.1 (0, "")).1 (errsL.getD j.1 (0, "")).2 ∈ fns := List.mem_append_left _ (List.mem_map.mpr ⟨_, by rw [List.getD_eq_getElem?_getD, List.getElem?_eq_getElem (show j.1 < errsL.length from j.2)]; exact List.getElem_mem _, rfl⟩)
theorem meth_in (j : Fin 9) : dMeth (methL.getD j.1 (0, "")) ∈ fns := List.mem_append_right _ (List.mem_append_left _ (List.mem_map.mpr ⟨_, by rw [List.getD_eq_getElem?_getD, List.getElem?_eq_getElem (show j.1 < methL.length from j.2)]; exact List.getElem_mem _, rfl⟩))
theorem def_in (j : Fin 35) : dDef (allL.getD j.1 (0, "")) ∈ fns := List.mem_append_right _ (List.mem_append_right _ (List.mem_map.mpr ⟨_, by rw [List.getD_eq_getElem?_getD, List.getElem?_eq_getElem (show j.1 < allL.length from j.2)]; exact List.getElem_mem _, rfl⟩))
theorem err_ix {x : Str} (h : x ∈ errs) : ∃ j : Fin 6, (errsL.getD j.1 (0, "")).2 = x := by
  obtain ⟨p, hp, rfl⟩ := List.mem_map.mp (show x ∈ errsL.map (·.2) from h)
  obtain ⟨i, hi, e⟩ := List.mem_iff_getElem.mp hp
  refine ⟨⟨i, hi⟩, ?_⟩
  rw [List.getD_eq_getElem?_getD, List.getElem?_eq_getElem hi, e]
  rfl
def initI (j : Fin 6) : Stmt := initS (errsL.getD j.1 (0, "")).1
theorem init_sc : ∀ j : Fin 6, FnScope iPs iPs (defScope (initI j)) := by
  intro j
  have h : ∀ j : Fin 6, (defScope (initI j)) = (defScope (initS 2)) := by decide +kernel
  rw [h j]
  exact ⟨rfl, rfl, rfl, by decide +kernel, rfl, by decide +kernel, by decide +kernel⟩
def iAr (p1 p2 : Pos) (e : Expr) : Arguments := { posonlyargs := [], args := [{ arg := "self", annotation := none, pos := p1 }, { arg := "value", annotation := none, pos := p2 }], vararg := none, kwonlyargs := [], kw_defaults := [], kwarg := none, defaults := [e] }
section
variable {ql : Str} {p1 p2 : Pos} {e : Expr} {bd : List Stmt} {sc : Scope}
theorem bind2 (T : Addr) (kV doc pm : Value) (an : Option Addr) (cdv ct : Value) (us its : List Value) (h1 : us.length = 2) (h2 : its.length = 1) :
    ∃ k, bindArgs (PySem.W.fnOf "__init__" ql (iAr p1 p2 e) bd sc (.ref T) kV doc pm an cdv ct) ⟨us, []⟩ = seqItems? (.ref T) >>= k ∧ k (some its.toArray) = pure (iPs.zip (us ++ its.drop 1)) :=
  match us, its, h1, h2 with | [_, _], [_], _, _ => ⟨_, rfl, rfl⟩
end
/-- what is read off the text of one such __init__ -/
def shapeB (a : Arguments) (b : List Stmt) : Bool := match a, b with
  | ⟨[], [⟨s1, none, _⟩, ⟨s2, none, _⟩], none, [], [], none, [_]⟩, [.Assign [.Attribute (.Name s3 _) s4 _] (.Name s5 _) _] => decide (s1 = "self") && (decide (s2 = "value") && (decide (s3 = "self") && (decide (s4 = "value") && decide (s5 = "value"))))
  | _, _ => false
theorem shapeB_ok {a : Arguments} {b : List Stmt} (h : shapeB a b = true) : (∃ p1 p2 e, a = iAr p1 p2 e) ∧ ∃ p1 p2 p3 p4, b = [.Assign [.Attribute (.Name "self" p1) "value" p2] (.Name "value" p3) p4] := by
  unfold shapeB at h
  split at h
  · obtain ⟨h1, h⟩ := He.ba h
    obtain ⟨h2, h⟩ := He.ba h
    obtain ⟨h3, h⟩ := He.ba h
    obtain ⟨h4, h5⟩ := He.ba h
    rw [of_decide_eq_true h1, of_decide_eq_true h2, of_decide_eq_true h3, of_decide_eq_true h4, of_decide_eq_true h5]
    exact ⟨⟨_, _, _, rfl⟩, _, _, _, _, rfl⟩
  · cases h
theorem shapes : ∀ j : Fin 6, shapeB (defArgs (initI j)) (defBody (initI j)) = true := by decide +kernel
section
variable {P : Program} {w : World} {K : PySem.W.Frag} {mg : Str → Option Value} {base : Heap}
theorem errC_of {x : Str} (c : obsM K = valM) (hx : x ∈ errs) (E : EC K (ga K x) (He.ma K (ga K x) "__init__")) (gl : mg x = some (.ref (ga K x))) : ErrC P w K mg base x := by
  obtain ⟨j, hj⟩ := err_ix hx
  obtain ⟨fd, F⟩ := fun_of c (init_in j)
  rw [hj] at F
  have F' : FunD K "__init__" (x ++ ".__init__") (defArgs (initI j)) (defBody (initI j)) (defScope (initI j)) [.non] [] (He.ma K (ga K x) "__init__") fd := F
  obtain ⟨⟨q1, q2, qe, ea⟩, p1, p2, p3, p4, e⟩ := shapeB_ok (shapes j)
  rw [ea, e] at F'
  obtain ⟨d1, v1, b1⟩ := FunD.binds1 (ps := iPs) F' 2 1 (by simp) rfl bind2
  have e1 : d1 = [] := by
    cases v1
    rfl
  subst e1
  refine ⟨⟨_, fd, E, ?_, b1⟩, gl⟩
  refine okN F' (init_sc j) (fun vs H Q Ex h => ?_) (fun cdv A outer s H vs Q Ex hr h => ?_)
  · obtain ⟨_, _, rfl, _⟩ := h
    rfl
  · obtain ⟨a, v, rfl, ha, k⟩ := h
    have sc := init_sc j
    refine ⟨tOst K "value" (tVar 0) (tVar 1), ?_, ?_⟩
    · exact pss_one (ps_ost (pe_var (x := "self") rfl (sc.par "self" (List.mem_cons_self)|>.imp id .inl) (by decide) (by decide)) (pe_var (x := "value") rfl (sc.par "value" (List.mem_cons_of_mem _ List.mem_cons_self)|>.imp id .inl) (by decide) (by decide)))
    · exact ⟨v, rfl, _, rfl, a, ga K x, rfl, E.t, E.nv, .inl ⟨ha, fun dx n ne => k dx n ne⟩⟩
end
end K08

set_option maxHeartbeats 8000000
namespace K08
open PySem PySem.Spec PyProof.Rows L2 G1
structure Facts (K : PySem.W.Frag) (mg : Str → Option Value) : Prop where
  fr : ∀ x ∈ frees, mg x = none
  long : ∃ t, mg "LONGEST_NAME" = some (.int 8 t)
  gl : ∀ x ∈ globs, mg x = some (.ref (ga K x))
  ec : ∀ x ∈ errs, EC K (ga K x) (He.ma K (ga K x) "__init__")
  pan : PanHd K
  xm : ∀ m ∈ xmeths, Meth K (ga K "Panel") m (He.ma K (ga K "Panel") m)
  xc : ∀ x ∈ errs, ExcC K (ga K x)
  ex : ∀ x ∈ caught, ∀ y ∈ caught, PySem.W.exmOne K (.ref (ga K x)) (.ref (ga K y)) = some (decide (x = y))
  kt : ∀ T ∈ kits, PySem.W.kitOne K (.type T) (.ref (ga K "Panel")) = some false
theorem facts_of {K : PySem.W.Frag} {h : Heap} {mg : Str → Option Value} (X : K.In h) (G : h.Ns mainGlobals mg) (c : obsM K = valM) : Facts K mg := by
  have c1 : (allB K && fns.all fun d => d.ok K) = true := congrArg (fun z : AlM => z.1) c
  obtain ⟨h1, q⟩ := He.ba (He.ba c1).1
  obtain ⟨h2, q⟩ := He.ba q
  obtain ⟨h3, q⟩ := He.ba q
  obtain ⟨h4, q⟩ := He.ba q
  obtain ⟨h5, q⟩ := He.ba q
  obtain ⟨h6, q⟩ := He.ba q
  obtain ⟨h7, q⟩ := He.ba q
  obtain ⟨h8, h9⟩ := He.ba q
  exact ⟨fun x hx => He.free_ok X G (all_of h1 hx), He.int_ok X G h2, fun x hx => He.glo_ok X G (all_of h3 hx), fun x hx => ecB_ok (all_of h5 hx) (exB_ok (all_of h4 hx)), panB_ok h6, fun m hm => He.meth_ok (all_of h7 hm), fun x hx => exB_ok (all_of h4 hx), fun x hx y hy => of_decide_eq_true (all_of (all_of h8 hx) hy), fun T hT => of_decide_eq_true (all_of h9 hT)⟩
theorem law_of {P : Program} {w : World} {K : PySem.W.Frag} {h : Heap} {mg : Str → Option Value} {f : Addr} (X : K.In h) (G : h.Ns mainGlobals mg) (hfa : mg ("law" : Str) = some (.ref f)) (c : obsM K = valM) :
    ∃ fd : FuncData, (∀ (s : Shared) (v : Value), BindsTo s fd ⟨[v], []⟩ [("_law_script", v)]) ∧ ∀ base : Heap, K.In base → base.Ns mainGlobals mg → FnG P w K mg base 10 f fd ["_law_script"] (spLaw K) := by
  have T := facts_of X G c
  have fr := T.fr
  have gl := T.gl
  obtain ⟨m0, M0⟩ := fun_of c (meth_in 0)
  obtain ⟨m1, M1⟩ := fun_of c (meth_in 1)
  obtain ⟨m2, M2⟩ := fun_of c (meth_in 2)
  obtain ⟨m3, M3⟩ := fun_of c (meth_in 3)
  obtain ⟨m4, M4⟩ := fun_of c (meth_in 4)
  obtain ⟨m5, M5⟩ := fun_of c (meth_in 5)
  obtain ⟨m6, M6⟩ := fun_of c (meth_in 6)
  obtain ⟨m7, M7⟩ := fun_of c (meth_in 7)
  obtain ⟨m8, M8⟩ := fun_of c (meth_in 8)
  obtain ⟨d0, D0⟩ := fun_of c (def_in 0)
  obtain ⟨d1, D1⟩ := fun_of c (def_in 1)
  obtain ⟨d2, D2⟩ := fun_of c (def_in 2)
  obtain ⟨d3, D3⟩ := fun_of c (def_in 3)
  obtain ⟨d4, D4⟩ := fun_of c (def_in 4)
  obtain ⟨d5, D5⟩ := fun_of c (def_in 5)
  obtain ⟨d6, D6⟩ := fun_of c (def_in 6)
  obtain ⟨d7, D7⟩ := fun_of c (def_in 7)
  obtain ⟨d8, D8⟩ := fun_of c (def_in 8)
  obtain ⟨d9, D9⟩ := fun_of c (def_in 9)
  obtain ⟨d10, D10⟩ := fun_of c (def_in 10)
  obtain ⟨d11, D11⟩ := fun_of c (def_in 11)
  obtain ⟨d12, D12⟩ := fun_of c (def_in 12)
  obtain ⟨d13, D13⟩ := fun_of c (def_in 13)
  obtain ⟨d14, D14⟩ := fun_of c (def_in 14)
  obtain ⟨d15, D15⟩ := fun_of c (def_in 15)
  obtain ⟨d16, D16⟩ := fun_of c (def_in 16)
  obtain ⟨d17, D17⟩ := fun_of c (def_in 17)
  obtain ⟨d18, D18⟩ := fun_of c (def_in 18)
  obtain ⟨d19, D19⟩ := fun_of c (def_in 19)
  obtain ⟨d20, D20⟩ := fun_of c (def_in 20)
  obtain ⟨d21, D21⟩ := fun_of c (def_in 21)
  obtain ⟨d22, D22⟩ := fun_of c (def_in 22)
  obtain ⟨d23, D23⟩ := fun_of c (def_in 23)
  obtain ⟨d24, D24⟩ := fun_of c (def_in 24)
  obtain ⟨d25, D25⟩ := fun_of c (def_in 25)
  obtain ⟨d26, D26⟩ := fun_of c (def_in 26)
  obtain ⟨d27, D27⟩ := fun_of c (def_in 27)
  obtain ⟨d28, D28⟩ := fun_of c (def_in 28)
  obtain ⟨d29, D29⟩ := fun_of c (def_in 29)
  obtain ⟨d30, D30⟩ := fun_of c (def_in 30)
  obtain ⟨d31, D31⟩ := fun_of c (def_in 31)
  obtain ⟨d32, D32⟩ := fun_of c (def_in 32)
  obtain ⟨d33, D33⟩ := fun_of c (def_in 33)
  obtain ⟨d34, D34⟩ := fun_of c (def_in 34)
  have e := hfa.symm.trans (gl "law" (by decide))
  cases e
  have I___init__ : FnM K "__init__" "Panel.__init__" sInit (He.ma K (ga K "Panel") "__init__") m0 := M0
  have I_entries : FnM K "entries" "Panel.entries" sEnt (He.ma K (ga K "Panel") "entries") m1 := M1
  have I_rows : FnM K "rows" "Panel.rows" sRws (He.ma K (ga K "Panel") "rows") m2 := M2
  have I___len__ : FnM K "__len__" "Panel.__len__" sLen (He.ma K (ga K "Panel") "__len__") m3 := M3
  have I___eq__ : FnM K "__eq__" "Panel.__eq__" sEq (He.ma K (ga K "Panel") "__eq__") m4 := M4
  have I_with_row : FnM K "with_row" "Panel.with_row" sWith (He.ma K (ga K "Panel") "with_row") m5 := M5
  have I_without_row : FnM K "without_row" "Panel.without_row" sWout (He.ma K (ga K "Panel") "without_row") m6 := M6
  have I_struck : FnM K "struck" "Panel.struck" sStruck (He.ma K (ga K "Panel") "struck") m7 := M7
  have I_renamed : FnM K "renamed" "Panel.renamed" sRen (He.ma K (ga K "Panel") "renamed") m8 := M8
  have J_is_name : FnP K "is_name" sIsName (ga K "is_name") d0 := D0
  have J_is_count : FnP K "is_count" sIsCount (ga K "is_count") d1 := D1
  have J_is_ascending : FnP K "is_ascending" sAsc (ga K "is_ascending") d2 := D2
  have J_are_unlike_names : FnP K "are_unlike_names" sUnlike (ga K "are_unlike_names") d3 := D3
  have J_is_lot : FnP K "is_lot" sIsLot (ga K "is_lot") d4 := D4
  have J_is_field : FnP K "is_field" sIsField (ga K "is_field") d5 := D5
  have J_is_row : FnP K "is_row" sIsRow (ga K "is_row") d6 := D6
  have J_are_rows : FnP K "are_rows" sAreR (ga K "are_rows") d7 := D7
  have J_check_entries : FnP K "check_entries" sChkE (ga K "check_entries") d8 := D8
  have J_check_row : FnP K "check_row" sChkRw (ga K "check_row") d9 := D9
  have J_check_rows : FnP K "check_rows" sChkR (ga K "check_rows") d10 := D10
  have J_check_entry : FnP K "check_entry" sChkN (ga K "check_entry") d11 := D11
  have J_check_position : FnP K "check_position" sChkAt (ga K "check_position") d12 := D12
  have J_check_field : FnP K "check_field" sChkF (ga K "check_field") d13 := D13
  have J_is_renaming : FnP K "is_renaming" sIsRen (ga K "is_renaming") d14 := D14
  have J_check_panel : FnP K "check_panel" sChkP (ga K "check_panel") d15 := D15
  have J_first_there : FnP K "first_there" sFirst (ga K "first_there") d16 := D16
  have J_cards_on : FnP K "cards_on" sCardsOn (ga K "cards_on") d17 := D17
  have J_named : FnP K "named" sNamed (ga K "named") d18 := D18
  have J_cards : FnP K "cards" sCards (ga K "cards") d19 := D19
  have J_who : FnP K "who" sWho (ga K "who") d20 := D20
  have J_ahead : FnP K "ahead" sAhead (ga K "ahead") d21 := D21
  have J_places : FnP K "places" sPlaces (ga K "places") d22 := D22
  have J_turned : FnP K "turned" sTurned (ga K "turned") d23 := D23
  have J_equal_rows : FnP K "equal_rows" sEqR (ga K "equal_rows") d24 := D24
  have J_plain : FnP K "plain" sPlainP (ga K "plain") d25 := D25
  have J__law_asked : FnP K "_law_asked" sAsked (ga K "_law_asked") d26 := D26
  have J__law_caught : FnP K "_law_caught" sCaught (ga K "_law_caught") d27 := D27
  have J__law_doors : FnP K "_law_doors" sDoors (ga K "_law_doors") d28 := D28
  have J__law_odds : FnP K "_law_odds" sOdds (ga K "_law_odds") d29 := D29
  have J__law_good : FnP K "_law_good" sGood (ga K "_law_good") d30 := D30
  have J__law_door_right : FnP K "_law_door_right" sDR (ga K "_law_door_right") d31 := D31
  have J__law_named_right : FnP K "_law_named_right" sNR (ga K "_law_named_right") d32 := D32
  have J__law_cell : FnP K "_law_cell" sCell (ga K "_law_cell") d33 := D33
  have J_law : FnP K "law" sLaw (ga K "law") d34 := D34
  have b := FunD.bindsA (ps := ["_law_script"]) J_law fun _ _ _ _ _ _ us hl => match us, hl with | [_], _ => rfl
  refine ⟨d34, fun s v => b s [v] rfl, fun base _ _ => ?_⟩
  have L : Lib K mg := ⟨fr _ (by decide), fr _ (by decide), fr _ (by decide), fr _ (by decide), fr _ (by decide)⟩
  have LP : LibP mg := ⟨fr _ (by decide), fr _ (by decide), fr _ (by decide), fr _ (by decide), fr _ (by decide), fr _ (by decide), T.long⟩
  have LZ : LibZ mg := ⟨fr _ (by decide), fr _ (by decide), fr _ (by decide), fr _ (by decide)⟩
  have gP : mg "Panel" = some (.ref (ga K "Panel")) := gl _ (by decide)
  have EE : ErrC P w K mg base "InvalidEntries" := errC_of c (by decide) (T.ec _ (by decide)) (gl _ (by decide))
  have ER : ErrC P w K mg base "InvalidRows" := errC_of c (by decide) (T.ec _ (by decide)) (gl _ (by decide))
  have PX : PanX K (ga K "Panel") := T.pan.y.toPanX
  have PC : PanC K (ga K "Panel") := PX.toPanC
  have GU := ok_unlike (P := P) (w := w) (base := base) J_are_unlike_names L LP J_is_name (gl "is_name" (by decide))
  have GI := ok_isRow (P := P) (w := w) (base := base) J_is_row L LP
  have GA := ok_areR (P := P) (w := w) (base := base) J_are_rows L LP J_is_row (gl "is_row" (by decide)) GI
  have GE := ok_chkE (P := P) (w := w) (base := base) J_check_entries EE J_are_unlike_names (gl "are_unlike_names" (by decide)) GU
  have GK := ok_chkR (P := P) (w := w) (base := base) J_check_rows ER J_are_rows (gl "are_rows" (by decide)) GA
  have GIn := ok_init (P := P) (w := w) (base := base) I___init__ L LP PC J_check_entries (gl "check_entries" (by decide)) GE J_check_rows (gl "check_rows" (by decide)) GK
  have GEn := ok_ent (P := P) (w := w) (base := base) I_entries LP PC
  have GRw := ok_rws (P := P) (w := w) (base := base) I_rows LP PC
  have GLn := ok_len (P := P) (w := w) (base := base) I___len__ L PC
  have GEq := ok_eq (P := P) (w := w) (base := base) I___eq__ LP PX gP
  have N : PanP P w K mg base (ga K "Panel") := ⟨PC.cls, ⟨⟨_, _, T.pan.en, GEn, I_entries.bindsN fun _ _ _ _ _ _ us hl => match us, hl with | [_], _ => rfl⟩⟩, ⟨⟨_, _, T.pan.rw, GRw, I_rows.bindsN fun _ _ _ _ _ _ us hl => match us, hl with | [_], _ => rfl⟩⟩,
    ⟨_, _, T.pan.ln.at_, T.pan.ln.fn, GLn, I___len__.bindsN fun _ _ _ _ _ _ us hl => match us, hl with | [_], _ => rfl⟩⟩
  have GAs := ok_asc (P := P) (w := w) (base := base) (K := K) J_is_ascending LP LZ
  have GIL := ok_isLot (P := P) (w := w) (base := base) J_is_lot LP J_is_ascending (gl "is_ascending" (by decide)) GAs
  have GIF := ok_isField (P := P) (w := w) (base := base) J_is_field L J_is_lot (gl "is_lot" (by decide)) GIL
  have GCF := ok_chkF (P := P) (w := w) (base := base) J_check_field J_is_field (gl "is_field" (by decide)) GIF
  have GIC := ok_isCount (P := P) (w := w) (base := base) J_is_count LP LZ
  have GCA := ok_chkAt (P := P) (w := w) (base := base) J_check_position J_is_count (gl "is_count" (by decide)) GIC
  have GCN := ok_chkN (P := P) (w := w) (base := base) (mg := mg) J_check_entry
  have GCP := ok_chkP (P := P) (w := w) (base := base) J_check_panel LP PX gP
  have GFi := ok_first (P := P) (w := w) (base := base) (mg := mg) J_first_there
  have GCO := ok_cardsOn (P := P) (w := w) (base := base) J_cards_on LP J_first_there (gl "first_there" (by decide)) GFi
  have DP : Df P w K mg base 1 "check_panel" sChkP ["panel"] (spChkP (ga K "Panel")) := ⟨⟨_, _, J_check_panel, gl _ (by decide), GCP, (J_check_panel.bindsN fun _ _ _ _ _ _ us hl => match us, hl with | [_], _ => rfl)⟩⟩
  have DA : Df P w K mg base 2 "check_position" sChkAt ["many", "at"] spChkAt := ⟨⟨_, _, J_check_position, gl _ (by decide), GCA, (J_check_position.bindsN fun _ _ _ _ _ _ us hl => match us, hl with | [_, _], _ => rfl)⟩⟩
  have DN : Df P w K mg base 1 "check_entry" sChkN ["entries", "entry"] (spChkN K) := ⟨⟨_, _, J_check_entry, gl _ (by decide), GCN, (J_check_entry.bindsN fun _ _ _ _ _ _ us hl => match us, hl with | [_, _], _ => rfl)⟩⟩
  have DF : Df P w K mg base 4 "check_field" sChkF ["entries", "field"] (spChkF K) := ⟨⟨_, _, J_check_field, gl _ (by decide), GCF, (J_check_field.bindsN fun _ _ _ _ _ _ us hl => match us, hl with | [_, _], _ => rfl)⟩⟩
  have D1 : Df P w K mg base 1 "first_there" sFirst ["row", "field"] (spFirst K) := ⟨⟨_, _, J_first_there, gl _ (by decide), GFi, (J_first_there.bindsN fun _ _ _ _ _ _ us hl => match us, hl with | [_, _], _ => rfl)⟩⟩
  have D2 : Df P w K mg base 2 "cards_on" sCardsOn ["rows", "field"] (spCardsOn K) := ⟨⟨_, _, J_cards_on, gl _ (by decide), GCO, (J_cards_on.bindsN fun _ _ _ _ _ _ us hl => match us, hl with | [_, _], _ => rfl)⟩⟩
  have DIL : Df P w K mg base 2 "is_lot" sIsLot ["entries", "value"] (spIsLot K) := ⟨⟨_, _, J_is_lot, gl _ (by decide), GIL, (J_is_lot.bindsN fun _ _ _ _ _ _ us hl => match us, hl with | [_, _], _ => rfl)⟩⟩
  have DNm : Df P w K mg base 5 "named" sNamed ["panel", "at", "field"] (spNamed (ga K "Panel")) := ⟨⟨_, _, J_named, gl _ (by decide), ok_named J_named L N DP DA DF D1, (J_named.bindsN fun _ _ _ _ _ _ us hl => match us, hl with | [_, _, _], _ => rfl)⟩⟩
  have DCa : Df P w K mg base 5 "cards" sCards ["panel", "field"] (spCards (ga K "Panel")) := ⟨⟨_, _, J_cards, gl _ (by decide), ok_cards J_cards N DP DF D2, (J_cards.bindsN fun _ _ _ _ _ _ us hl => match us, hl with | [_, _], _ => rfl)⟩⟩
  have DWh : Df P w K mg base 5 "who" sWho ["panel", "field", "entry"] (spWho (ga K "Panel")) := ⟨⟨_, _, J_who, gl _ (by decide), ok_who J_who LZ N DP DN DF D1, (J_who.bindsN fun _ _ _ _ _ _ us hl => match us, hl with | [_, _, _], _ => rfl)⟩⟩
  have DAh : Df P w K mg base 3 "ahead" sAhead ["panel", "at", "entry"] (spAhead (ga K "Panel")) := ⟨⟨_, _, J_ahead, gl _ (by decide), ok_ahead J_ahead L LP N DP DA DN, (J_ahead.bindsN fun _ _ _ _ _ _ us hl => match us, hl with | [_, _, _], _ => rfl)⟩⟩
  have DPl : Df P w K mg base 2 "places" sPlaces ["panel", "entry"] (spPlaces (ga K "Panel")) := ⟨⟨_, _, J_places, gl _ (by decide), ok_places J_places N DP DN, (J_places.bindsN fun _ _ _ _ _ _ us hl => match us, hl with | [_, _], _ => rfl)⟩⟩
  have DTu : Df P w K mg base 6 "turned" sTurned ["panel"] (spTurned (ga K "Panel")) := ⟨⟨_, _, J_turned, gl _ (by decide), ok_turned J_turned N T.pan.mkr gP I___init__ GIn DP, (J_turned.bindsN fun _ _ _ _ _ _ us hl => match us, hl with | [_], _ => rfl)⟩⟩
  have DEq : Df P w K mg base 2 "equal_rows" sEqR ["panel"] (spEqRows (ga K "Panel")) := ⟨⟨_, _, J_equal_rows, gl _ (by decide), ok_eqRows J_equal_rows LZ N DP, (J_equal_rows.bindsN fun _ _ _ _ _ _ us hl => match us, hl with | [_], _ => rfl)⟩⟩
  have DPn : Df P w K mg base 6 "plain" sPlainP ["panel"] (spPlainP (ga K "Panel")) := ⟨⟨_, _, J_plain, gl _ (by decide), ok_plainP J_plain LZ N T.pan.mkr gP I___init__ GIn DP, (J_plain.bindsN fun _ _ _ _ _ _ us hl => match us, hl with | [_], _ => rfl)⟩⟩
  have DCR : Df P w K mg base 2 "check_row" sChkRw ["entries", "row"] (spChkRw K) := ⟨⟨_, _, J_check_row, gl _ (by decide), ok_chkRw J_check_row J_is_row (gl "is_row" (by decide)) GI, (J_check_row.bindsN fun _ _ _ _ _ _ us hl => match us, hl with | [_, _], _ => rfl)⟩⟩
  have DIR : Df P w K mg base 3 "is_renaming" sIsRen ["entries", "value"] (spIsRen K) := ⟨⟨_, _, J_is_renaming, gl _ (by decide), ok_isRen J_is_renaming L LP (fr "dict" (by decide)) J_are_unlike_names (gl "are_unlike_names" (by decide)) GU, (J_is_renaming.bindsN fun _ _ _ _ _ _ us hl => match us, hl with | [_, _], _ => rfl)⟩⟩
  have MS : Mt2 P w K mg base (ga K "Panel") 6 "struck" ["self", "lot"] (spStruck (ga K "Panel")) := ⟨_, _, T.xm "struck" (by decide), ok_struck I_struck L PC T.pan.mkr gP I___init__ GIn DIL, I_struck.bindsN fun _ _ _ _ _ _ us hl => match us, hl with | [_, _], _ => rfl⟩
  have MW : Mt2 P w K mg base (ga K "Panel") 6 "with_row" ["self", "row"] (spWith (ga K "Panel")) := ⟨_, _, T.xm "with_row" (by decide), ok_with I_with_row PC T.pan.mkr gP I___init__ GIn DCR, I_with_row.bindsN fun _ _ _ _ _ _ us hl => match us, hl with | [_, _], _ => rfl⟩
  have MO : Mt2 P w K mg base (ga K "Panel") 6 "without_row" ["self", "at"] (spWout (ga K "Panel")) := ⟨_, _, T.xm "without_row" (by decide), ok_wout I_without_row L PC T.pan.mkr gP I___init__ GIn DA, I_without_row.bindsN fun _ _ _ _ _ _ us hl => match us, hl with | [_, _], _ => rfl⟩
  have MR : Mt2 P w K mg base (ga K "Panel") 6 "renamed" ["self", "names"] (spRen (ga K "Panel")) := ⟨_, _, T.xm "renamed" (by decide), ok_ren I_renamed LP PC T.pan.mkr gP I___init__ GIn DIR, I_renamed.bindsN fun _ _ _ _ _ _ us hl => match us, hl with | [_, _], _ => rfl⟩
  have EP : ErrC P w K mg base "InvalidPanel" := errC_of c (by decide) (T.ec _ (by decide)) (gl _ (by decide))
  have EK : ErrC P w K mg base "InvalidCount" := errC_of c (by decide) (T.ec _ (by decide)) (gl _ (by decide))
  have EF : ErrC P w K mg base "InvalidField" := errC_of c (by decide) (T.ec _ (by decide)) (gl _ (by decide))
  have EN : ErrC P w K mg base "UnknownEntry" := errC_of c (by decide) (T.ec _ (by decide)) (gl _ (by decide))
  have GPX := ok_chkPX (P := P) (w := w) (base := base) J_check_panel LP gP EP
  have GICX := ok_isCountX (P := P) (w := w) (base := base) (K := K) J_is_count LP LZ
  have GAX := ok_chkAtX (P := P) (w := w) (base := base) J_check_position EK J_is_count (gl "is_count" (by decide)) GIC GICX
  have GNX := ok_chkNX (P := P) (w := w) (base := base) J_check_entry EN
  have GLX := ok_isLotX (P := P) (w := w) (base := base) (K := K) J_is_lot LP
  have GFX := ok_isFieldX (P := P) (w := w) (base := base) J_is_field L J_is_lot (gl "is_lot" (by decide)) GIL GLX
  have GCFX := ok_chkFX (P := P) (w := w) (base := base) J_check_field EF J_is_field (gl "is_field" (by decide)) GFX
  have PXd : DfX P w K mg base 3 "check_panel" sChkP ["panel"] (spChkPX K (ga K "Panel")) := ⟨⟨_, _, J_check_panel, gl _ (by decide), GPX, (J_check_panel.bindsN fun _ _ _ _ _ _ us hl => match us, hl with | [_], _ => rfl)⟩⟩
  have AXd : DfX P w K mg base 3 "check_position" sChkAt ["many", "at"] (spChkAtX K) := ⟨⟨_, _, J_check_position, gl _ (by decide), GAX, (J_check_position.bindsN fun _ _ _ _ _ _ us hl => match us, hl with | [_, _], _ => rfl)⟩⟩
  have NXd : DfX P w K mg base 3 "check_entry" sChkN ["entries", "entry"] (spChkNX K) := ⟨⟨_, _, J_check_entry, gl _ (by decide), GNX, (J_check_entry.bindsN fun _ _ _ _ _ _ us hl => match us, hl with | [_, _], _ => rfl)⟩⟩
  have FXd : DfX P w K mg base 4 "check_field" sChkF ["entries", "field"] (spChkFX K) := ⟨⟨_, _, J_check_field, gl _ (by decide), GCFX, (J_check_field.bindsN fun _ _ _ _ _ _ us hl => match us, hl with | [_, _], _ => rfl)⟩⟩
  have X0 : DfX P w K mg base 5 "turned" sTurned ["panel"] (spOneX K (ga K "Panel")) := ⟨⟨_, _, J_turned, gl _ (by decide), ok_turnedX J_turned PXd, (J_turned.bindsN fun _ _ _ _ _ _ us hl => match us, hl with | [_], _ => rfl)⟩⟩
  have X1 : DfX P w K mg base 5 "equal_rows" sEqR ["panel"] (spOneX K (ga K "Panel")) := ⟨⟨_, _, J_equal_rows, gl _ (by decide), ok_eqRowsX J_equal_rows PXd, (J_equal_rows.bindsN fun _ _ _ _ _ _ us hl => match us, hl with | [_], _ => rfl)⟩⟩
  have X2 : DfX P w K mg base 5 "plain" sPlainP ["panel"] (spOneX K (ga K "Panel")) := ⟨⟨_, _, J_plain, gl _ (by decide), ok_plainX J_plain PXd, (J_plain.bindsN fun _ _ _ _ _ _ us hl => match us, hl with | [_], _ => rfl)⟩⟩
  have X3 : DfX P w K mg base 5 "cards" sCards ["panel", "field"] (spCardsX K (ga K "Panel")) := ⟨⟨_, _, J_cards, gl _ (by decide), ok_cardsX J_cards N DP PXd FXd, (J_cards.bindsN fun _ _ _ _ _ _ us hl => match us, hl with | [_, _], _ => rfl)⟩⟩
  have X4 : DfX P w K mg base 5 "places" sPlaces ["panel", "entry"] (spPlacesX K (ga K "Panel")) := ⟨⟨_, _, J_places, gl _ (by decide), ok_placesX J_places N DP PXd NXd, (J_places.bindsN fun _ _ _ _ _ _ us hl => match us, hl with | [_, _], _ => rfl)⟩⟩
  have X5 : DfX P w K mg base 5 "named" sNamed ["panel", "at", "field"] (spNamedX K (ga K "Panel")) := ⟨⟨_, _, J_named, gl _ (by decide), ok_namedX J_named L N DP DA PXd AXd FXd, (J_named.bindsN fun _ _ _ _ _ _ us hl => match us, hl with | [_, _, _], _ => rfl)⟩⟩
  have X6 : DfX P w K mg base 5 "who" sWho ["panel", "field", "entry"] (spWhoX K (ga K "Panel")) := ⟨⟨_, _, J_who, gl _ (by decide), ok_whoX J_who N DP DF PXd NXd FXd, (J_who.bindsN fun _ _ _ _ _ _ us hl => match us, hl with | [_, _, _], _ => rfl)⟩⟩
  have X7 : DfX P w K mg base 5 "ahead" sAhead ["panel", "at", "entry"] (spAheadX K (ga K "Panel")) := ⟨⟨_, _, J_ahead, gl _ (by decide), ok_aheadX J_ahead L N DP DA PXd AXd NXd, (J_ahead.bindsN fun _ _ _ _ _ _ us hl => match us, hl with | [_, _, _], _ => rfl)⟩⟩
  have DAs : DfX P w K mg base 7 "_law_asked" sAsked ["_law_door", "_law_given"] (spAsked K (ga K "Panel")) := ⟨⟨_, _, J__law_asked, gl _ (by decide), ok_asked J__law_asked DTu X0 DEq X1 DPn X2 DCa X3 DPl X4 DNm X5 DWh X6 DAh X7, (J__law_asked.bindsN fun _ _ _ _ _ _ us hl => match us, hl with | [_, _], _ => rfl)⟩⟩
  have CC : CatC K mg := ⟨fun w => by cases w <;> exact (fun h => ⟨ExcC.hg h, ExcC.hk h, ExcC.hs h, ExcC.hd h⟩) (T.xc _ (by decide)), fun w => by cases w <;> exact (T.ec _ (by decide)).nv, fun w => by cases w <;> exact gl _ (by decide), fun v w => by cases v <;> cases w <;> exact T.ex _ (by decide) _ (by decide)⟩
  have DCt : Df P w K mg base 8 "_law_caught" sCaught ["_law_door", "_law_given"] (spCaught K (ga K "Panel")) := ⟨⟨_, _, J__law_caught, gl _ (by decide), ok_caught J__law_caught CC DAs, (J__law_caught.bindsN fun _ _ _ _ _ _ us hl => match us, hl with | [_, _], _ => rfl)⟩⟩
  have DGo : Df P w K mg base 1 "_law_good" sGood ["_law_word", "_law_made"] spGood := ⟨⟨_, _, J__law_good, gl _ (by decide), ok_good J__law_good (fr "dict" (by decide)), (J__law_good.bindsN fun _ _ _ _ _ _ us hl => match us, hl with | [_, _], _ => rfl)⟩⟩
  have OO : PanO K (ga K "Panel") := panO_of T.pan.y.no T.kt
  have DOd : Df P w K mg base 2 "_law_odds" sOdds ["_law_word", "_law_made"] (spOdds K (ga K "Panel")) := ⟨⟨_, _, J__law_odds, gl _ (by decide), ok_odds J__law_odds N OO, (J__law_odds.bindsN fun _ _ _ _ _ _ us hl => match us, hl with | [_, _], _ => rfl)⟩⟩
  have DDR : Df P w K mg base 9 "_law_door_right" sDR ["_law_door", "_law_words", "_law_made"] (spDR (ga K "Panel")) := ⟨⟨_, _, J__law_door_right, gl _ (by decide), ok_doorR J__law_door_right L DGo DOd DCt, (J__law_door_right.bindsN fun _ _ _ _ _ _ us hl => match us, hl with | [_, _, _], _ => rfl)⟩⟩
  have DDo : Df P w K mg base 1 "_law_doors" sDoors [] spDoors := ⟨⟨_, _, J__law_doors, gl _ (by decide), ok_doors J__law_doors, (J__law_doors.bindsN fun _ _ _ _ _ _ us hl => match us, hl with | [], _ => rfl)⟩⟩
  have DCe : Df P w K mg base 1 "_law_cell" sCell ["_law_script", "_law_spot"] (spCell K) := ⟨⟨_, _, J__law_cell, gl _ (by decide), ok_cell J__law_cell L, (J__law_cell.bindsN fun _ _ _ _ _ _ us hl => match us, hl with | [_, _], _ => rfl)⟩⟩
  have GWr := ok_with (P := P) (w := w) (base := base) I_with_row PC T.pan.mkr gP I___init__ GIn DCR
  have GWo := ok_wout (P := P) (w := w) (base := base) I_without_row L PC T.pan.mkr gP I___init__ GIn DA
  have GSt := ok_struck (P := P) (w := w) (base := base) I_struck L PC T.pan.mkr gP I___init__ GIn DIL
  have GRe := ok_ren (P := P) (w := w) (base := base) I_renamed LP PC T.pan.mkr gP I___init__ GIn DIR
  have DNR : Df P w K mg base 7 "_law_named_right" sNR ["_law_made"] (spNR (ga K "Panel")) := ⟨⟨_, _, J__law_named_right, gl _ (by decide), ok_namedR J__law_named_right L LP T.pan.y T.pan.mkr gP N I___init__ GIn I___eq__ GEq DTu DEq DPn DCa DPl DNm DWh DAh I_with_row (T.xm "with_row" (by decide)) GWr I_without_row (T.xm "without_row" (by decide)) GWo I_struck (T.xm "struck" (by decide)) GSt I_renamed (T.xm "renamed" (by decide)) GRe, (J__law_named_right.bindsN fun _ _ _ _ _ _ us hl => match us, hl with | [_], _ => rfl)⟩⟩
  exact ok_law J_law L T.pan.mkr gP I___init__ GIn DCe DDo DDR DNR
end K08

set_option maxHeartbeats 0
open PySem PySem.W PySem.Calls PyProof.Rows
theorem PySem.Challenge.cw_cardpanel_k08_panels_refused_and_by_name_holds : PySem.Challenge.rw_cardpanel_k08_panels_refused_and_by_name.Holds := by
  w_on; o_law
  refine HandSHeadRun.head_any (r := K08.R) (q := view K08.R.prog [50]) (H := K08.hk) (ob := K08.ob) (M := 20000) (loose := K08.others) (d := HandSHeadRun.topDef K08.R.prog 50) (kwd := []) K08.ob_eq
    (by kernel_rfl) (fun s => by kernel_rfl) K08.run (by kernel_rfl) (by kernel_rfl) (by kernel_rfl) (by rfl) (by first | assumption | decide +kernel) (by decide +kernel) ⟨rfl, rfl, rfl, rfl, rfl, by decide +kernel⟩ ?hw ?hc
  case hw => w_witness2
  case hc =>
    refine G1.walk_ofG (l := PySem.Challenge.rw_cardpanel_k08_panels_refused_and_by_name) (n := 63) (k := 10) (x := "_law_script") rfl (by decide) (by kernel_rfl) ⟨rfl, by decide, by decide⟩ ?F
    intro w mg fa h Y G hmg0
    obtain ⟨K, KX, c⟩ := Y
    have hmg : mg ("law" : PySem.Str) = some (.ref fa) := by
      have e : (HandSHeadRun.topDef K08.R.prog 50).name = ("law" : PySem.Str) := by kernel_rfl
      rw [← e]
      exact hmg0
    obtain ⟨fd, hb, hF⟩ := K08.law_of (P := PySem.Challenge.rw_cardpanel_k08_panels_refused_and_by_name.prog) (w := w) KX G hmg c
    exact ⟨K, fd, K08.spLaw K, KX, hb, fun H a ns hl _ hS => ⟨a, ns, rfl, hS, fun _ => rfl⟩, hF⟩
