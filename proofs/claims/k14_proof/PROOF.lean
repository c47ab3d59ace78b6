import PyProof.Rows.All
import HandS.Call
import KE.OsArith
import Wide.All
import OpenK.AllK
import Wide.FinOn
import KE.KStateDown
import HandS.ForMost
import HandS.Exc
import HandS.ExcOwn
import HandS.ExcInit
import HandS.ExcValue
import HandS.IsInst
import HandS.ExcIs
import HandS.Wide
import HandS.WideBits
import HandS.Defaults
import HandS.Head0
import HandS.Head1
import HandS.Head2
import HandS.HeadEnd
import HandS.HeadHook1
import HandS.HeadHook2
import HandS.Strs
import HandS.Set
import PyProof.Rows.SortShellAny
import KE.KDictList
import HandS.Dict
import HandS.Iter
import HandS.WordsDict
import HandS.DictComp
import PySem.Challenge.RW_cardpanel_k14_alike_refused_and_by_name
import HandS.More
import HandS.Style
import HandS.Text
import PyProof.EqAt
import PyProof.EqKinds
import PyProof.NeKinds
import PyProof.InstNe
import OpenK.KOps
import HandS.Deep
import HandS.Zip
import HandS.Flow
import HandS.TryMany
import HandS.Walk
import HandS.List
import KE.SortData
import HandS.MakeKwOnly
import HandS.SortKw
import KE.DataMinMax
import ObjForm.LawKit
import HandS.ExcField
import HandS.TryOnly
import HandS.MakeKw
set_option Elab.async false
set_option linter.all false
set_option maxRecDepth 100000
set_option maxHeartbeats 4000000
/-! Sets of names as masks: a bit for each place of the list of all names. -/
namespace G1
open PySem
theorem band_nat (a b : Nat) : Builtin.bitAnd (a : Int) (b : Int) = ((a &&& b : Nat) : Int) := by
  unfold Builtin.bitAnd
  rw [decide_eq_true (show (0 : Int) ≤ (a : Int) by omega), decide_eq_true (show (0 : Int) ≤ (b : Int) by omega)]
  simp
theorem bnot_nat (a : Nat) : (Builtin.bitNot (Builtin.bitNot (a : Int))) = (a : Int) := by
  unfold Builtin.bitNot
  omega
theorem bor_nat (a b : Nat) : Builtin.bitOr (a : Int) (b : Int) = ((a ||| b : Nat) : Int) := by
  have n1 : ¬ (0 : Int) ≤ Builtin.bitNot (a : Int) := by unfold Builtin.bitNot; omega
  have n2 : ¬ (0 : Int) ≤ Builtin.bitNot (b : Int) := by unfold Builtin.bitNot; omega
  unfold Builtin.bitOr Builtin.bitAnd
  rw [decide_eq_false n1, decide_eq_false n2]
  simp only [bnot_nat, Int.toNat_natCast]
/-- a & ~b -/
theorem bandnot_nat (a b : Nat) : Builtin.bitAnd (a : Int) (Builtin.bitNot (b : Int)) = ((a - (a &&& b) : Nat) : Int) := by
  have n2 : ¬ (0 : Int) ≤ Builtin.bitNot (b : Int) := by unfold Builtin.bitNot; omega
  have le : a &&& b ≤ a := Nat.and_le_left
  unfold Builtin.bitAnd
  rw [decide_eq_true (show (0 : Int) ≤ (a : Int) by omega), decide_eq_false n2]
  simp only [bnot_nat, Int.toNat_natCast]
  omega
/-- the mask of those names of xs that p holds of -/
def msk (p : Str → Bool) : List Str → Nat
  | [] => 0
  | x :: xs => (if p x then 1 else 0) + 2 * msk p xs
theorem msk_bit0 {p : Str → Bool} {x : Str} {xs : List Str} : (msk p (x :: xs)).testBit 0 = p x := by
  show ((if p x then 1 else 0) + 2 * msk p xs).testBit 0 = p x
  cases p x with
  | true => simp [Nat.testBit_zero]
  | false => simp [Nat.testBit_zero]
theorem msk_bitS {p : Str → Bool} {x : Str} {xs : List Str} {i : Nat} : (msk p (x :: xs)).testBit (i + 1) = (msk p xs).testBit i := by
  show ((if p x then 1 else 0) + 2 * msk p xs).testBit (i + 1) = _
  rw [Nat.testBit_succ]
  congr 1
  cases p x with
  | true =>
    rw [if_pos rfl]
    omega
  | false =>
    rw [if_neg Bool.false_ne_true]
    omega
theorem msk_test {p : Str → Bool} : ∀ {xs : List Str} {i : Nat}, (msk p xs).testBit i = (xs[i]?.map p).getD false
  | [], i => by
    show (0 : Nat).testBit i = _
    simp
  | x :: xs, 0 => by
    rw [msk_bit0]
    rfl
  | x :: xs, i + 1 => by
    rw [msk_bitS, msk_test (xs := xs) (i := i)]
    rfl
section
variable {p q : Str → Bool} {xs : List Str}
theorem msk_or : msk p xs ||| msk q xs = msk (fun x => p x || q x) xs := by
  refine Nat.eq_of_testBit_eq fun i => ?_
  rw [Nat.testBit_or, msk_test, msk_test, msk_test]
  cases xs[i]? <;> rfl
theorem msk_and : msk p xs &&& msk q xs = msk (fun x => p x && q x) xs := by
  refine Nat.eq_of_testBit_eq fun i => ?_
  rw [Nat.testBit_and, msk_test, msk_test, msk_test]
  cases xs[i]? <;> rfl
theorem msk_inj : msk p xs = msk q xs ↔ ∀ x ∈ xs, p x = q x := by
  constructor
  · intro e x hx
    obtain ⟨i, hi, ei⟩ := List.mem_iff_getElem.mp hx
    have t := congrArg (fun n => Nat.testBit n i) e
    simp only [msk_test] at t
    rw [List.getElem?_eq_getElem hi, ei] at t
    exact t
  · intro h
    refine Nat.eq_of_testBit_eq fun i => ?_
    rw [msk_test, msk_test]
    cases e : xs[i]? with
    | none => rfl
    | some x => exact h x (List.mem_of_getElem? e)
theorem msk_false : ∀ {xs : List Str}, msk (fun _ => false) xs = 0
  | [] => rfl
  | x :: xs => by
    show (if false = true then 1 else 0) + 2 * msk (fun _ => false) xs = 0
    rw [msk_false]
    rfl
theorem msk_zero : msk p xs = 0 ↔ ∀ x ∈ xs, p x = false := by
  rw [← msk_false (xs := xs)]
  exact msk_inj
/-- all of p are q: what holds_one asks -/
theorem msk_sub : msk p xs - (msk p xs &&& msk q xs) = 0 ↔ ∀ x ∈ xs, p x = true → q x = true := by
  have le : msk p xs &&& msk q xs ≤ msk p xs := Nat.and_le_left
  rw [show (msk p xs - (msk p xs &&& msk q xs) = 0) ↔ (msk p xs &&& msk q xs = msk p xs) from ⟨fun h => by omega, fun h => by omega⟩, msk_and, msk_inj]
  refine ⟨fun h x hx e => ?_, fun h x hx => ?_⟩
  · have := h x hx
    rw [e, Bool.true_and] at this
    exact this
  · cases e : p x with
    | false => rfl
    | true => rw [h x hx e]; rfl
/-- the bit of one name -/
theorem msk_one : ∀ {xs : List Str} {i : Nat} {x : Str}, xs.Nodup → xs[i]? = some x → msk (fun y => y == x) xs = 2 ^ i
  | y :: ys, 0, x, nd, e => by
    cases e
    obtain ⟨h, _⟩ := List.nodup_cons.mp nd
    show (if (y == y) = true then 1 else 0) + 2 * msk _ ys = 1
    have z : msk (fun z => z == y) ys = 0 := msk_zero.mpr fun z hz => beq_eq_false_iff_ne.mpr fun q => h (q ▸ hz)
    rw [z, if_pos (beq_self_eq_true y)]
  | y :: ys, i + 1, x, nd, e => by
    obtain ⟨h, n2⟩ := List.nodup_cons.mp nd
    have e2 : ys[i]? = some x := e
    have hx := List.mem_of_getElem? e2
    show (if (y == x) = true then 1 else 0) + 2 * msk _ ys = 2 ^ (i + 1)
    have ne : (y == x) = false := beq_eq_false_iff_ne.mpr fun q => h (q ▸ hx)
    rw [msk_one n2 e2, ne, if_neg Bool.false_ne_true, Nat.pow_succ]
    omega
theorem msk_le (h : ∀ x ∈ xs, p x = true → q x = true) : msk p xs ≤ msk q xs := by
  have e : msk p xs &&& msk q xs = msk p xs := by
    have := msk_sub.mpr h
    have le : msk p xs &&& msk q xs ≤ msk p xs := Nat.and_le_left
    omega
  rw [← e]
  exact Nat.and_le_right
theorem msk_lt : ∀ {xs : List Str}, msk p xs < 2 ^ xs.length
  | [] => by show 0 < 1; decide
  | x :: xs => by
    have ih := msk_lt (xs := xs)
    show (if p x then 1 else 0) + 2 * msk p xs < 2 ^ (xs.length + 1)
    rw [Nat.pow_succ]
    split <;> omega
end
end G1

set_option maxHeartbeats 4000000
/-! Own rules over the hand layer: calls where no repr runs, repr of data, powers. -/
namespace G1
open PySem PySem.Spec PyProof.Rows L2
/-- no guard of a repr stands around -/
abbrev Gd (A : Around) : Prop := A.guards = some []
/-- a def's promise where no guard stands around -/
structure FnG (P : Program) (w : World) (K : PySem.W.Frag) (mg : Str → Option Value) (base : Heap) (k : Nat) (f : Addr) (fd : FuncData) (ps : List Str) (sp : Sp) : Prop where
  len : ∀ vs H Q E, sp vs H Q E → vs.length = ps.length
  run : ∀ (A : Around) (outer : List Env) (s : Shared) (H : Hp) (args : Args) (us : List Value) (vs : List V) (Q : VK) (E : XK), Gd A → Room k A → Env0 P w K mg base A outer s H →
    BindsTo s fd args (ps.zip us) → Vals vs us → sp vs H Q E → codeAny (model P w) A (.call (.ref f) args) (CR CX0 outer P w H s Q E) s
section
variable {P : Program} {w : World} {K : PySem.W.Frag} {mg : Str → Option Value} {base : Heap}
theorem FnG.body {k : Nat} {f : Addr} {nm ql : Str} {pr : Arguments} {bd : List Stmt} {sc : Scope} {dV kV doc pm cdv ct oc : Value} {an od : Option Addr}
    {osl : Array (Option Value)} {N ps : List Str} {sp : Sp} (lk : K.lookup f = some ⟨oc, od, .func (PySem.W.fnOf nm ql pr bd sc dV kV doc pm an cdv ct), osl⟩)
    (hcd : PySem.W.codeIn K cdv ql = true) (S : FnScope N ps sc) (len : ∀ vs H Q E, sp vs H Q E → vs.length = ps.length)
    (hb : ∀ (A : Around) (outer : List Env) (s : Shared) (H : Hp) (vs : List V) (Q : VK) (E : XK), Gd A → Room k (A.deeper (envOfC ql sc s.heap.objs.size f cdv)) → sp vs H Q E →
      ∃ t, PSs (cxOf CX0 P w K mg base N ql sc f cdv A outer s H E) bd t ∧ t { nx := fun _ H' => Q .non H', rt := Q } (start N vs) H) :
    FnG P w K mg base (k + 1) f (PySem.W.fnOf nm ql pr bd sc dV kV doc pm an cdv ct) ps sp := by
  refine ⟨len, fun A outer s H args us vs Q E hg hr e0 => ?_⟩
  -- the library's rule for every surroundings, asked of a promise that holds at these alone
  intro hbi r hsp
  have hl := len _ _ _ _ hsp
  have KX : K.In s.heap := e0.mod.kin.keeps fun b o e => (e0.bs b o e).1
  have hkd : ∀ y ∈ ps.zip us, sc.names.lookup y.1 = some .local ∨
      (sc.names.lookup y.1 = some .cell ∧ ((cellsFrom (s.heap.objs.size + 1) sc.names []).lookup y.1).isSome = true) := by
    rintro ⟨n, v⟩ hy
    cases S.par n (List.of_mem_zip hy).1 with
    | inl q => exact .inl q
    | inr q => exact .inr ⟨q, PySem.W.cellsFrom_some _ _ _ (.inl q)⟩
  apply codeAny_call_function hr.depth (KX _ _ lk) rfl S.co S.gen rfl (PySem.W.codeRec_of KX hcd) (hbi _ _ _ _ _)
  apply wpAny_newFunctionEnv_cells S.kind hkd
  rintro env rfl s1 x
  refine ⟨(e0.mod.nolimit.keeps fun b o e => (e0.bs b o e).1).keeps x.toInCall.keep, codeAny_func ?_⟩
  obtain ⟨t, ht, hq⟩ := hb A outer s H vs Q E hg (hr.deeper _) hsp
  have run := ht.run [] s1 (start N vs) H _ (inv_start S hr.hd e0 hl r x) hq
  refine wpAny_mono run ?_ (fun _ _ h => h)
  rintro (_ | _ | _ | u) s' hs
  · obtain ⟨σ', H', J, q⟩ := hs
    exact ⟨.non, H', J.os, J.bare, J.base, J.hok, rfl, q⟩
  · obtain ⟨_, _, _, q⟩ := hs
    exact q.elim
  · obtain ⟨_, _, _, q⟩ := hs
    exact q.elim
  · obtain ⟨v, σ', H', J, rv, q⟩ := hs
    exact ⟨v, H', J.os, J.bare, J.base, J.hok, rv, q⟩
end
end G1

set_option maxHeartbeats 4000000
namespace G1
open PySem PySem.Spec PyProof.Rows L2
section
variable {X : Cx} {k : Nat} {f : Addr} {fd : FuncData} {ps : List Str} {sp : Sp} {dvs : List V} {ds : List Value} {x : Str} {p pos : Pos} {e : Expr} {es : List Expr} {t : TA}
theorem go_fn {pins : List (Addr × Obj)} {σ : L2.St} {H : Hp} {s : Shared} {Q : VK} {us : List Value} {vs : List V} (F : FnG X.prog X.w X.K X.mg X.base k f fd ps sp) (hg : Gd X.A) (hr : Room k X.A)
    (hb : Binds X.K fd ps ds) (hd : Vals dvs ds) (I : Inv X pins σ H s) (r : Vals vs us) (h : sp (vs ++ dvs) H Q E0) :
    wpAny (model X.prog X.w) X.A (call (.ref f) us) (EP X pins σ Q) X.xe s := by
  have r2 : Vals (vs ++ dvs) (us ++ ds) := r.append hd
  have hl : (us ++ ds).length = ps.length := r2.length.symm.trans (F.len _ _ _ _ h)
  apply wpAny_call
  refine codeAny_mono (F.run X.A X.stack s H ⟨us, []⟩ (us ++ ds) (vs ++ dvs) Q E0 hg hr I.env0 (hb s us I.kIn hl) r2 h) ?_
  rintro (er | (_ | _ | _ | u)) s' hq
  · exact False.elim hq
  · exact hq.elim
  · exact hq.elim
  · exact hq.elim
  · exact I.after hq
theorem pe_callG (F : FnG X.prog X.w X.K X.mg X.base k f fd ps sp) (hgd : Gd X.A) (hr : Room k X.A) (hg : Gl X x) (hm : X.mg x = some (.ref f)) (hk : PySem.W.keepIn X.K (.ref f) = true)
    (hb : Binds X.K fd ps ds) (hd : Vals dvs ds) (ha : PA X (e :: es) t) (hdb : (x == ("__debug__" : Str)) = false := by decide)
    (he : starEach (e :: es) X.env = (false, eval e X.env) :: starEach es X.env := by rfl) (hpl : (backTo pos (starEach es X.env)).any (·.1) = false := by rfl) :
    PE X (.Call (.Name x p) (e :: es) [] pos) (tCall sp dvs E0 t) := by
  constructor
  intro pins s σ H Q I h
  apply wpAny_Call_Name_kw (ld_glob I hg hm ?_ hdb)
  exact PySem.W.callWith_K (h₀ := X.base) I.ok.mod.kin hk (thn (ha.run pos pins s σ H _ I h) fun us s1 ⟨vs, H1, I1, r, q⟩ => ⟨I1.kIn, go_fn F hgd hr hb hd I1 r q⟩) he hpl
end
/-! ### the law itself, called where no guard stands -/
theorem gd_caller : Gd callerA := rfl
section
variable {P : Program} {w : World} {K : PySem.W.Frag} {mg mb : Str → Option Value} {k : Nat} {fa a : Addr} {fd : FuncData} {x : Str} {sp : Sp} {s₁ : Shared} {vs : List Value} {ns : List Int}
/-- from an abstract heap in which nothing but the script is told -/
theorem law_at {H : Hp} (KX : K.In s₁.heap) (hns : s₁.heap.Ns mainGlobals mg) (hb : s₁.heap.Ns builtinsNs mb) (hbb : ∀ x : Str, x ≠ "__name__" → mb x = bootBuiltins x) (hlim : s₁.heap.NoLimit) (hg : s₁.gens = #[])
    (ha : s₁.heap.get? a = some { cls := .type "list", data := .seq vs.toArray }) (hr : Room k callerA)
    (F : ∀ base : Heap, K.In base → base.Ns mainGlobals mg → FnG P w K mg base k fa fd [x] sp) (hbind : ∀ (s : Shared) (u : Value), BindsTo s fd ⟨[u], []⟩ [(x, u)])
    (hO : Only H) (hS : SqL K H a (ns.map V.int)) (hok : HOk P w H s₁.heap) (hA : ∀ b, H b ≠ none → b = a) (hK : H a ≠ none → K.lookup a = none)
    (hsp : sp [.ref a] H (fun v _ => v = .bl true) fun _ _ _ => False) :
    codeAny (model P w) callerA (.call (.ref fa) ⟨[.ref a], []⟩) (fun r s' => r = .ok (.ret (.bool true)) ∧ OldK s₁.heap s'.heap ∧ s'.os = s₁.os ∧ AllBare s'.gens) s₁ := by
  have one : ∀ {b : Addr}, (∀ z, H b ≠ some z) → H b = none := fun {b} n => by
    cases q : H b with
    | none => rfl
    | some u => exact (n u q).elim
  have hid : ∀ {b : Addr} {o : Obj} {es : Array DictEntry} {ep : Nat}, s₁.heap.get? b = some o → o.data = .dict es ep → (hidT s₁.heap H).get? b = some o := by
    intro b o es ep e d
    refine hidT_get e (one fun z q => ?_)
    have eb := hA b (by rw [q]; simp)
    subst eb
    rw [ha] at e
    cases e
    exact (show Data.seq vs.toArray _ ≠ Data.dict es ep from fun z => by cases z) d
  have ns_ : ∀ {b : Addr} {m : Str → Option Value}, s₁.heap.Ns b m → (hidT s₁.heap H).Ns b m := by
    rintro b m ⟨o, es, ep, e, d, r⟩
    exact ⟨o, es, ep, hid e d, d, r⟩
  have KB : K.In (hidT s₁.heap H) := by
    intro b o e
    refine hidT_get (KX b o e) (one fun z q => ?_)
    have eb := hA b (by rw [q]; simp)
    subst eb
    rw [hK (by rw [q]; simp)] at e
    cases e
  obtain ⟨mc, l1, l2⟩ := hlim
  have M0 : Mod K mg (hidT s₁.heap H) := ⟨KB, ns_ hns, ⟨mb, ns_ hb, hbb⟩, ⟨mc, ns_ l1, l2⟩⟩
  have nofs : ∀ {b : Addr}, b ∉ frs ([] : List Env) := fun {b} z => by
    have z' : b ∈ ([] : List Addr) := z
    simp at z'
  have E1 : Env0 P w K mg (hidT s₁.heap H) callerA [] s₁ H := {
    frames := rfl
    mod := M0
    bs := fun b o e => of_hidT e
    bsz := Nat.le_of_eq (hidT_size _ _)
    funs := trivial
    frf := fun b z => (nofs z).elim
    hok := hok
    bare := .of_eq hg }
  refine codeAny_mono ((F _ KB (ns_ hns)).run callerA [] s₁ H ⟨[.ref a], []⟩ [.ref a] [.ref a] _ _ gd_caller hr E1 (hbind s₁ (.ref a)) (.cons rfl .nil) hsp) ?_
  rintro (er | (_ | _ | _ | u)) s' h
  · exact False.elim h
  · exact False.elim h
  · exact False.elim h
  · exact False.elim h
  · obtain ⟨v, H', eos, bare, un, hok', r', q⟩ := h
    have q' : v = .bl true := q
    subst q'
    have eu : u = Value.bool true := r'
    subst eu
    refine ⟨rfl, OldK.of_keep fun b o e => ?_, eos, bare⟩
    rcases hO b with z | ⟨ob, xs, z⟩
    · exact un.keep b o e z nofs (by simp)
    · obtain ⟨e2, _⟩ := hok' b _ (un.frzs b ob _ z)
      obtain ⟨e1, _⟩ := hok b _ z
      rw [e] at e1
      cases e1
      exact e2
theorem law_callG (KX : K.In s₁.heap) (hns : s₁.heap.Ns mainGlobals mg) (hb : s₁.heap.Ns builtinsNs mb) (hbb : ∀ x : Str, x ≠ "__name__" → mb x = bootBuiltins x) (hlim : s₁.heap.NoLimit) (hg : s₁.gens = #[])
    (ha : s₁.heap.get? a = some { cls := .type "list", data := .seq vs.toArray }) (hi : IntsAre vs ns) (hl : ns.length ≤ sizeLine) (hr : Room k callerA)
    (F : ∀ base : Heap, K.In base → base.Ns mainGlobals mg → FnG P w K mg base k fa fd [x] sp) (hbind : ∀ (s : Shared) (u : Value), BindsTo s fd ⟨[u], []⟩ [(x, u)])
    (hsp : ∀ H : Hp, Only H → SqL K H a (ns.map V.int) → sp [.ref a] H (fun v _ => v = .bl true) fun _ _ _ => False) :
    codeAny (model P w) callerA (.call (.ref fa) ⟨[.ref a], []⟩) (fun r s' => r = .ok (.ret (.bool true)) ∧ OldK s₁.heap s'.heap ∧ s'.os = s₁.os ∧ AllBare s'.gens) s₁ := by
  have rv := vals_ints hi
  cases hk : K.lookup a with
  | some o =>
    have e := KX a o hk
    rw [ha] at e
    cases e
    have S : SqL K (fun _ => none) a (ns.map V.int) := .inr ⟨_, vs.toArray, _, hk, rfl, rfl, rfl, by rw [List.size_toArray, hi.length]; exact hl, by simpa using rv⟩
    exact law_at KX hns hb hbb hlim hg ha hr F hbind (fun _ => .inl rfl) S (fun _ _ z => nomatch z) (fun _ z => (z rfl).elim) (fun z => (z rfl).elim) (hsp _ (fun _ => .inl rfl) S)
  | none =>
    have yes : ∀ u : HO, (fun b : Addr => if b = a then some u else none) a = some u := fun u => if_pos rfl
    have no : ∀ {u : HO} {b : Addr}, b ≠ a → (fun b : Addr => if b = a then some u else none) b = none := fun {u b} n => if_neg n
    have O : Only (fun b : Addr => if b = a then some (HO.frz { cls := .type "list", data := .seq vs.toArray } (.lst (ns.map V.int))) else none) := by
      intro b
      by_cases q : b = a
      · exact .inr ⟨_, _, if_pos q⟩
      · exact .inl (if_neg q)
    have S := hsp _ O (.inl (.inr ⟨_, yes _⟩))
    refine law_at KX hns hb hbb hlim hg ha hr F hbind O (.inl (.inr ⟨_, yes _⟩)) (fun b u z => ?_) (fun b z => ?_) (fun _ => hk) S
    · by_cases q : b = a
      · subst q
        have z' := (yes _).symm.trans z
        cases z'
        exact ⟨ha, by rw [List.length_map]; exact hl, vs, _, rv, ha⟩
      · rw [if_neg q] at z
        cases z
    · by_cases q : b = a
      · exact q
      · exact (z (no q)).elim
end
theorem walk_ofG {l : PySem.W.OpenLaw} {n k : Nat} {q : Program} {loose : List Str} {XP : (Str → Option Value) → Heap → Prop} {YP : World → Heap → Prop} {d : DefRec} {x : Str}
    (hn : l.most = some n) (hn2 : n ≤ sizeLine) (hdf : d.params.defaults = []) (hr : Room k callerA)
    (F : ∀ (w : World) (mg : Str → Option Value) (fa : Addr) (h : Heap), YP w h → h.Ns mainGlobals mg → mg d.name = some (.ref fa) →
      ∃ (K : PySem.W.Frag) (fd : FuncData) (sp : Sp), K.In h ∧ (∀ (s : Shared) (u : Value), BindsTo s fd ⟨[u], []⟩ [(x, u)]) ∧
        (∀ (H : Hp) (a : Addr) (ns : List Int), ns.length ≤ n → Only H → SqL K H a (ns.map V.int) → sp [.ref a] H (fun v _ => v = .bl true) fun _ _ _ => False) ∧
        ∀ base : Heap, K.In base → base.Ns mainGlobals mg → FnG l.prog w K mg base k fa fd [x] sp) :
    PySem.W.WalkO q loose XP YP l.row.toRowW d [] (fun f vs => PySem.call f vs) := by
  apply Att.attach_call hn hdf
  intro w s₀ s₁ mg mb fa o pm cd doc a vs ns G Y ho hd hcd hmg hobj hints hlen hg
  obtain ⟨K, fd, sp, KX, hb, hsp, hF⟩ := F w mg fa _ Y G.T.g hmg
  exact law_callG KX G.T.g G.T.b G.T.builtins G.T.nolimit hg hobj hints (Nat.le_trans hlen hn2) hr hF hb fun H hO hS => hsp H a ns hlen hO hS
end G1

set_option maxHeartbeats 4000000
/-! C(name = v), C an own exception class over ValueError with an __init__ of its own. -/
namespace G1
open PySem PySem.W PySem.Calls PyProof.Rows PySem.HandSPX
section
variable {prog : Program} {w : World} {A : Around} {E : Value → Shared → Prop} {R : Result → Shared → Prop} {h : Heap} {g : Array GenState} {d : Drawn} {t : Nat} {os : OsState}
variable {nm q : Str} {C N : Addr} {bs bm : List Value} {hdct : Bool} {sn : List Str} {sub : List Value} {ab : Bool} {col : Option Bool} {dd : Option Addr} {k0 k1 k2 k3 k5 : Option Value}
abbrev veC (nm q : Str) (C N : Addr) (bs bm : List Value) (hdct : Bool) (sn : List Str) (sub : List Value) (ab : Bool) (col : Option Bool) (dd : Option Addr) (k0 k1 k2 k3 k5 : Option Value) : Obj :=
  excClassObj nm q C N bs bm hdct sn sub ab col dd k0 k1 k2 k3 k5 "ValueError.__new__"
theorem kw_new (hb : refsVE bm = true) {v : Value} {y : Str} {Q : Unit → Shared → Prop}
    (hC : h.get? C = some (veC nm q C N bs bm hdct sn sub ab col dd k0 k1 k2 k3 k5)) (hq : Q () ⟨h, g, d, t, os⟩) :
    wpAny (model prog w) A (checkBuiltinCall "ValueError.__new__" ⟨[.ref C], [(y, v)]⟩) Q E ⟨h, g, d, t, os⟩ := by
  have F := F.excBase_ValueError
  have hc : (Value.ref C :: bm).contains (.type "ValueError") = true := by
    rw [List.contains_cons, refsVE_contains "ValueError" bm hb]
    rfl
  have star := F.noStar
  simp only [checkBuiltinCall, F.newKind, F.newSplit, F.newRow]
  repeat (first
    | refine wpAny_loadPart_at hC ?_
    | (refine wpAny_isSubtype_exc hC ?_; rw [hc])
    | refine wpAny_staticBase_exc hC ?_
    | refine wpAny_madeBy_exc hC ?_
    | simp only [bne_self_eq_false, Bool.false_eq_true, if_false]
    | wp_step)
  exact hq
theorem kw_made (hb : refsVE bm = true) {v : Value} {y : Str}
    (hC : h.get? C = some (veC nm q C N bs bm hdct sn sub ab col dd k0 k1 k2 k3 k5))
    (hq : R (.ok (.ret (.ref (h.objs.size + 1)))) ⟨(h.push (W.kdv_tup [])).push (excO C h.objs.size), g, d, t, os⟩) :
    codeAny (model prog w) A (.builtin "ValueError.__new__" ⟨[.ref C], [(y, v)]⟩) R ⟨h, g, d, t, os⟩ := by
  have F := F.excBase_ValueError
  have ends := F.ends
  have c1 : (Value.ref C :: bm).contains (.type "ValueError") = true := by
    rw [List.contains_cons, refsVE_contains "ValueError" bm hb]
    rfl
  have c2 : (Value.ref C :: bm).contains (.type "AttributeError") = false := by
    rw [List.contains_cons, refsVE_contains "AttributeError" bm hb]
    rfl
  have c3 : (Value.ref C :: bm).contains (.type "NameError") = false := by
    rw [List.contains_cons, refsVE_contains "NameError" bm hb]
    rfl
  refine codeAny_builtinAt F.entry ?_
  unfold Builtin.«BaseException.__new__»
  refine PySem.wpAt_bind ?_
  show PySem.wpAt _ _ _ (stack >>= _) _ _ _
  refine PySem.wpAt_bind (PySem.wpAt_stack fun p below => PySem.wpAt_of_wpAny ?_)
  wp_walk
  refine PySem.wpAt_of_wpAny ?_
  rw [F.owner]
  repeat (first
    | with_reducible refine wpAny_madeHere_exc F.canon hC ?_
    | with_reducible refine wpAny_loadPart_at hC ?_
    | (with_reducible refine wpAny_isSubtype_exc hC ?_; first | rw [c1] | rw [c2] | rw [c3])
    | wp_step)
  show R _ _
  rw [Heap.size_push]
  exact hq
theorem kw_chkT {v : Value} {y : Str} {Q : Unit → Shared → Prop}
    (hC : h.get? C = some (veC nm q C N bs bm hdct sn sub ab col dd k0 k1 k2 k3 k5)) (hq : Q () ⟨h, g, d, t, os⟩) :
    wpAny (model prog w) A (checkBuiltinCall "type.__call__" ⟨[.ref C], [(y, v)]⟩) Q E ⟨h, g, d, t, os⟩ := by
  have z := tc_sub
  have hT : (⟨h, g, d, t, os⟩ : Shared).TypeIs (.ref C) "type" := ⟨_, hC, rfl⟩
  simp only [checkBuiltinCall, tc_kind, tc_split]
  repeat (any_goals (first
    | assumption
    | with_reducible refine wpAny_loadPart_at hC ?_
    | with_reducible refine wpAny_onRaise ?_
    | with_reducible refine wpAny_map ?_
    | wp_step))
theorem kw_typeCall (hb : refsVE bm = true) {v : Value} {y : Str} {fI : Addr} {Q : PySem.Fin → Shared → Prop}
    (hC : h.get? C = some (veC nm q C N bs bm hdct sn sub ab col dd k0 k1 k2 k3 k5))
    (hi : W.Looks (model prog w) h (typeLookup (.ref C) "__init__") (some (.ref fI))) (hs : ∀ self, W.Looks (model prog w) h (bindSpecial (.ref fI) self) (.ref fI, [self]))
    (hq : codeAny (model prog w) A (.call (.ref fI) ⟨[.ref (h.objs.size + 1)], [(y, v)]⟩)
      (fun r s' => match r with | .ok (.ret u) => u = .none ∧ Q (.done (.ret (.ref (h.objs.size + 1)))) s' | .ok _ => False | .error e => E e s')
      ⟨(h.push (W.kdv_tup [])).push (excO C h.objs.size), g, d, t, os⟩) :
    wpAny (model prog w) A (Builtin.«type.__call__» ⟨[.ref C], [(y, v)]⟩) Q E ⟨h, g, d, t, os⟩ := by
  have F := F.excBase_ValueError
  repeat (first | with_reducible refine wpAny_loadPart_at hC ?_ | with_reducible refine wpAny_madeBy_exc hC ?_ | wp_step)
  apply codeAny_call_builtin_code (Code.quiet_builtin _ F.quiet) (kw_new hb hC ?_)
  apply kw_made hb hC
  show wpAny _ _ _ _ _ _
  have up : ∀ b o, h.get? b = some o → ((h.push (W.kdv_tup [])).push (excO C h.objs.size)).get? b = some o := fun b o e => Heap.get?_push_of_some _ (Heap.get?_push_of_some _ e)
  have at1 : ((h.push (W.kdv_tup [])).push (excO C h.objs.size)).get? (h.objs.size + 1) = some (excO C h.objs.size) := by heap_get
  have hC1 := up _ _ hC
  have own : (Value.ref C :: bm).contains (.ref C) = true := by simp
  have L1 := hi.keeps up
  have L2 := (hs (.ref (h.objs.size + 1))).keeps up
  unfold isInstance
  repeat (first | with_reducible refine wpAny_loadPart_at at1 ?_ | (with_reducible refine wpAny_isSubtype_exc hC1 ?_; rw [own]) | wp_step)
  show wpAny _ _ (typeLookup (.ref C) _) _ _ _
  refine L1.at ?_
  refine wpAny_holding (wpAny_bind (L2.at ?_))
  refine wpAny_bind (wpAny_call (codeAny_mono hq ?_))
  rintro (e | (_ | _ | _ | u)) s' z
  · exact z
  · exact z.elim
  · exact z.elim
  · exact z.elim
  · obtain ⟨rfl, z⟩ := z
    first
      | exact wpAny_pure (wpAny_pure z)
      | (wp_walk; exact z)
theorem kw_call (hb : refsVE bm = true) {v : Value} {y : Str} {fI : Addr}
    (hC : h.get? C = some (veC nm q C N bs bm hdct sn sub ab col dd k0 k1 k2 k3 k5))
    (hi : W.Looks (model prog w) h (typeLookup (.ref C) "__init__") (some (.ref fI))) (hs : ∀ self, W.Looks (model prog w) h (bindSpecial (.ref fI) self) (.ref fI, [self]))
    (hq : codeAny (model prog w) (A.under (.builtin "type.__call__" ⟨[.ref C], [(y, v)]⟩)) (.call (.ref fI) ⟨[.ref (h.objs.size + 1)], [(y, v)]⟩) (W.InitBack (h.objs.size + 1) R)
      ⟨(h.push (W.kdv_tup [])).push (excO C h.objs.size), g, d, t, os⟩) :
    codeAny (model prog w) A (.call (.ref C) ⟨[], [(y, v)]⟩) R ⟨h, g, d, t, os⟩ := by
  have z1 := tc_lookup
  have z2 := tc_bind (.ref C)
  have hTy : (⟨h, g, d, t, os⟩ : Shared).TypeIs (.ref C) "type" := ⟨_, hC, rfl⟩
  apply codeAny_of_tree
  show wpAny _ _ (callAny (.ref C) _) _ _ _
  repeat (any_goals (first | assumption | with_reducible refine wpAny_loadPart_at hC ?_ | wp_step))
  refine ⟨rfl, ?_⟩
  apply codeAny_call_builtin_at (Code.quiet_builtin _ (by decide +kernel)) entry_typeCall
  apply kw_chkT hC
  apply kw_typeCall hb hC hi hs
  refine codeAny_mono hq ?_
  rintro (e | (_ | _ | _ | u)) s' z <;> exact z
end
end G1

set_option maxHeartbeats 4000000
/-! Own exceptions as values over the layer: made, looked at, asked by isinstance. -/
namespace G1
open PySem PySem.Spec PyProof.Rows L2
/-- the heap behind C(v): the exception at a, its dict at d -/
def errH (H : Hp) (a d C : Addr) (v : V) : Hp := upd (upd (upd H a (exo a C none)) d (exd d [("value", v)])) a (exo a C (some d))
/-- an exception of the class at C that holds v -/
def ErrAt (H : Hp) (a C : Addr) (v : V) : Prop := ∃ d, H a = some (exo a C (some d)) ∧ H d = some (exd d [("value", v)])
theorem errH_at {H : Hp} {a d C : Addr} {v : V} (n : d ≠ a) : ErrAt (errH H a d C v) a C v := ⟨d, upd_same, by unfold errH; rw [upd_ne n, upd_same]⟩
theorem errH_same {H : Hp} {a d C : Addr} {v : V} (ha : H a = none) (hd : H d = none) : Same H (errH H a d C v) := fun b o e => by
  unfold errH
  rw [upd_ne (ne_of_none e ha), upd_ne (ne_of_none e hd), upd_ne (ne_of_none e ha)]
  exact e
theorem ErrAt.same {H H' : Hp} {a C : Addr} {v : V} (h : ErrAt H a C v) (s : Same H H') : ErrAt H' a C v := by
  obtain ⟨d, h1, h2⟩ := h
  exact ⟨d, s _ _ h1, s _ _ h2⟩
def spE (C : Addr) : Sp := fun vs H Q _ => ∃ (a : Addr) (v : V), vs = [.ref a, v] ∧ H a = some (exo a C none) ∧
  ∀ d, H d = none → d ≠ a → Q .non (upd (upd H d (exd d [("value", v)])) a (exo a C (some d)))
/-- what the written part says of such a class and its __init__ -/
structure EC (K : PySem.W.Frag) (C fI : Addr) : Prop where
  t : OexC K C
  x : ExcC K C
  nv : PySem.W.findIn K (.ref C) "value" = some none
  iC : PySem.W.findIn K (.ref C) "__init__" = some (some (.ref fI))
  tI : PySem.W.typeIn K (.ref fI) = some (.type "function")
section
variable {X : Cx} {pins : List (Addr × Obj)} {σ : L2.St} {H : Hp} {s : Shared} {Q : VK} {C fI : Addr} {k : Nat} {fd : FuncData} {ps : List Str} {sp : Sp} {dvs : List V} {ds : List Value} {x : Str} {p pos : Pos}
theorem new_exo (I : Inv X pins σ H s) (us : List Value) : H (s.heap.objs.size + 1) = none ∧
    Inv X pins σ (upd H (s.heap.objs.size + 1) (exo (s.heap.objs.size + 1) C none)) { s with heap := (s.heap.push (PySem.W.kdv_tup us)).push (PySem.HandSPX.excO C s.heap.objs.size) } := by
  obtain ⟨hp, g, dr, tk, os⟩ := s
  have hget : ((hp.push (PySem.W.kdv_tup us)).push (PySem.HandSPX.excO C hp.objs.size)).get? (hp.objs.size + 1) = some (PySem.HandSPX.excO C hp.objs.size) := by heap_get
  refine ⟨I.hok.fresh (Nat.le_succ _), ?_⟩
  exact I.laid (t' := tk) (a := hp.objs.size + 1) (o := exo (hp.objs.size + 1) C none) (h' := (hp.push (PySem.W.kdv_tup us)).push (PySem.HandSPX.excO C hp.objs.size))
    (fun b o e => Heap.get?_push_of_some _ (Heap.get?_push_of_some _ e)) (Nat.le_succ _) (exo_ok hget)
theorem run_mkE {us : List Value} {vs : List V} (T : OexC X.K C) (iC : PySem.W.findIn X.K (.ref C) "__init__" = some (some (.ref fI))) (tI : PySem.W.typeIn X.K (.ref fI) = some (.type "function"))
    (F1 : FnOk X.prog X.w X.K X.mg X.base CX0 k fI fd ps sp) (hr : Room (k + 1) X.A) (hb : Binds X.K fd ps ds) (hd : Vals dvs ds) (I : Inv X pins σ H s) (r : Vals vs us) (hz : vs.length ≤ 1000)
    (h : ∀ a, H a = none → sp (.ref a :: (vs ++ dvs)) (upd H a (exo a C none)) (fun v H2 => v = .non ∧ Q (.ref a) H2) E0) :
    wpAny (model X.prog X.w) X.A (call (.ref C) us) (EP X pins σ Q) X.xe s := by
  obtain ⟨nm, q, N, bs, bm, sn, sub, ab, col, dd, k0, k1, k2, k3, k5, hC, hbm⟩ := T.cls
  obtain ⟨hn, I2⟩ := new_exo (C := C) I us
  have hq := h _ hn
  have r2 : Vals (V.ref (s.heap.objs.size + 1) :: (vs ++ dvs)) (Value.ref (s.heap.objs.size + 1) :: (us ++ ds)) := .cons rfl (r.append hd)
  have hl : (Value.ref (s.heap.objs.size + 1) :: us ++ ds).length = ps.length := r2.length.symm.trans (F1.len _ _ _ _ hq)
  have hus : us.length ≤ sizeLine := by
    rw [← Paired.length r, sizeLine_eq]
    omega
  have KX := I.kIn
  obtain ⟨hp, g, dr, tk, os⟩ := s
  apply wpAny_call
  refine PySem.HandSPX.call_own F.excBase_ValueError (fun Y => PySem.HandSPX.refsVE_contains Y bm hbm) (KX _ _ hC) (PySem.W.looks_findIn KX iC) (fun self => PySem.W.bind_fn KX self tI) hus ?_
  refine codeAny_mono (F1.run _ X.stack _ _ ⟨Value.ref (hp.objs.size + 1) :: us, []⟩ (Value.ref (hp.objs.size + 1) :: (us ++ ds)) _ _ E0 (hr.make C us []) (I2.env0.make C us []) (hb _ (Value.ref (hp.objs.size + 1) :: us) I2.kIn hl) r2 hq) ?_
  rintro (er | (_ | _ | _ | u)) s' hq'
  · exact False.elim hq'
  · exact hq'.elim
  · exact hq'.elim
  · exact hq'.elim
  · obtain ⟨v, H', I3, rv, ev, q3⟩ := I2.after hq'
    subst ev
    exact ⟨rv, ⟨V.ref (hp.objs.size + 1), H', I3, rfl, q3⟩⟩
def tMkE (C : Addr) (sp : Sp) (dvs : List V) (t : TA) : TE := fun σ H Q => t σ H fun vs H1 => vs.length ≤ 1000 ∧ ∀ a, H1 a = none → sp (.ref a :: (vs ++ dvs)) (upd H1 a (exo a C none)) (fun v H2 => v = .non ∧ Q (.ref a) H2) E0
theorem pe_mkE {e : Expr} {es : List Expr} {t : TA} (T : EC X.K C fI) (F1 : FnOk X.prog X.w X.K X.mg X.base CX0 k fI fd ps sp) (hr : Room (k + 1) X.A) (hb : Binds X.K fd ps ds) (hd : Vals dvs ds) (hg : Gl X x) (hm : X.mg x = some (.ref C)) (ha : PA X (e :: es) t)
    (hdb : (x == ("__debug__" : Str)) = false := by decide) (he : starEach (e :: es) X.env = (false, eval e X.env) :: starEach es X.env := by rfl) (hpl : (backTo pos (starEach es X.env)).any (·.1) = false := by rfl) :
    PE X (.Call (.Name x p) (e :: es) [] pos) (tMkE C sp dvs t) := by
  constructor
  intro pins s σ H Q I h
  apply wpAny_Call_Name_kw (ld_glob I hg hm ?_ hdb)
  refine PySem.W.callWith_K (h₀ := X.base) I.ok.mod.kin T.t.kC (thn (ha.run pos pins s σ H _ I h) fun us s1 z => ?_) he hpl
  obtain ⟨vs, H1, I1, r1, hz, q1⟩ := z
  exact ⟨I1.kIn, run_mkE T.t T.iC T.tI F1 hr hb hd I1 r1 hz q1⟩
theorem pe_mkE0 (T : EC X.K C fI) (F1 : FnOk X.prog X.w X.K X.mg X.base CX0 k fI fd ps sp) (hr : Room (k + 1) X.A) (hb : Binds X.K fd ps ds) (hd : Vals dvs ds) (hg : Gl X x) (hm : X.mg x = some (.ref C))
    (hdb : (x == ("__debug__" : Str)) = false := by decide) : PE X (.Call (.Name x p) [] [] pos) (tMkE C sp dvs tNil) := by
  constructor
  intro pins s σ H Q I h
  apply wpAny_Call_Name_kw (ld_glob I hg hm ?_ hdb)
  obtain ⟨hz, q1⟩ := h
  exact PySem.W.callWith_K0 I.kIn T.t.kC (run_mkE (us := []) (vs := []) T.t T.iC T.tI F1 hr hb hd I .nil hz q1)
/-- C(k = v) -/
def tMkEK (C : Addr) (sp : Sp) (gV : List V → List V → List V) (t : TA) : TE := fun σ H Q => t σ H fun zs H1 => zs.length = 1 ∧ ∀ a, H1 a = none → sp (gV [.ref a] zs) (upd H1 a (exo a C none)) (fun v H2 => v = .non ∧ Q (.ref a) H2) E0
theorem pe_mkEK {kws : List Keyword} {y : Str} {tk : TA} {gw : List Value → List Value → List Value} {gV : List V → List V → List V} (T : EC X.K C fI) (F1 : FnOk X.prog X.w X.K X.mg X.base CX0 k fI fd ps sp) (hr : Room (k + 1) X.A)
    (hb : KBn X.K fd ps 1 [y] gw gV) (hg : Gl X x) (hm : X.mg x = some (.ref C)) (hkw : PK X kws tk)
    (hall : (backToKw pos (keywordEach kws X.env)).all (·.1.isSome) = true := by rfl) (hks : (backToKw pos (keywordEach kws X.env)).filterMap (·.1) = [y] := by rfl) (hdb : (x == ("__debug__" : Str)) = false := by decide)
    (hpl : ((backTo pos (starEach [] X.env)).any (·.1) || (backToKw pos (keywordEach kws X.env)).any (·.1.isNone)) = false := by rfl) :
    PE X (.Call (.Name x p) [] kws pos) (tMkEK C sp gV tk) := by
  constructor
  intro pins s σ H Q I h
  apply wpAny_Call_Name_kw (ld_glob I hg hm ?_ hdb)
  refine PySem.W.callWith_KW0 (h₀ := X.base) I.ok.mod.kin T.t.kC hall (thn (hkw.run pos pins s σ H _ I h) fun ws s1 z => ?_) hpl
  obtain ⟨zs, H1, I1, rz, l1, q⟩ := z
  refine ⟨I1.kIn, ?_⟩
  rw [hks]
  obtain ⟨z, rfl⟩ : ∃ z, zs = [z] := by
    match zs, l1 with
    | [z], _ => exact ⟨z, rfl⟩
  cases rz with
  | @cons _ u _ _ ru rn =>
    cases rn
    obtain ⟨nm, q0, N, bs, bm, sn, sub, ab, col, dd, k0, k1, k2, k3, k5, hC, hbm⟩ := T.t.cls
    obtain ⟨hn, I2⟩ := new_exo (C := C) I1 []
    have hq := q _ hn
    have r2 : Vals (gV [V.ref (s1.heap.objs.size + 1)] [z]) (gw [Value.ref (s1.heap.objs.size + 1)] [u]) := hb.rel (.cons rfl .nil) (.cons ru .nil)
    have KX := I1.kIn
    obtain ⟨hp, g, dr, tk, os⟩ := s1
    apply wpAny_call
    show codeAny (model X.prog X.w) X.A (.call (.ref C) ⟨[], [(y, u)]⟩) _ _
    refine kw_call hbm (KX _ _ hC) (PySem.W.looks_findIn KX T.iC) (fun self => PySem.W.bind_fn KX self T.tI) ?_
    refine codeAny_mono (F1.run _ X.stack _ _ ⟨[Value.ref (hp.objs.size + 1)], [(y, u)]⟩ (gw [Value.ref (hp.objs.size + 1)] [u]) _ _ E0 (hr.make C [] [(y, u)]) (I2.env0.make C [] [(y, u)]) (hb.to _ [Value.ref (hp.objs.size + 1)] [u] I2.kIn rfl rfl) r2 hq) ?_
    rintro (er | (_ | _ | _ | uu)) s' hq'
    · exact False.elim hq'
    · exact hq'.elim
    · exact hq'.elim
    · exact hq'.elim
    · obtain ⟨v, H', I3, rv, ev, q3⟩ := I2.after hq'
      subst ev
      exact ⟨rv, ⟨V.ref (hp.objs.size + 1), H', I3, rfl, q3⟩⟩
end
end G1

set_option maxHeartbeats 4000000
/-! isinstance, the field, of such an exception; repr of data; powers. -/
namespace G1
open PySem PySem.Spec PyProof.Rows L2
/-! ### isinstance -/
theorem kin_cls {prog : Program} {w : World} {A : Around} {E : Value → Shared → Prop} {s : Shared} {K : PySem.W.Frag} {x D : Addr} {ox : Obj} {od : Option Obj} {Q : Option Value → Shared → Prop}
    (C : ExcC K D) (hf : PySem.W.findObj K D od "__class__" = some (.bind (.builtin "getset_descriptor.__get__") (.builtin "object.__class__")))
    (X : K.In s.heap) (I : PySem.W.InstAt s.heap x ox D od) (h : Q (some (.ref D)) { s with toks := s.toks + 1 }) : wpAny (model prog w) A (getAttr? (.ref x) "__class__") Q E s := by
  obtain ⟨hp, g, d, t, os⟩ := s
  have k0 := I.type (M := model prog w)
  have k1 := PySem.W.looks_findIn (M := model prog w) X C.hg
  have k2 := PySem.W.looks_findIn (M := model prog w) X C.hk
  have k3 := PySem.W.looks_find (M := model prog w) X I hf
  have ks : PySem.W.Looks (model prog w) hp (isInstance (.ref x) (.type "BaseException")) true := k0.andThen (PySem.W.looks_subIn X C.hs)
  have b2 : (Value.builtin "BaseException.__getattribute__" == Value.builtin "object.__getattribute__") = false := by decide +kernel
  have b1 : (onTheHeap (Value.ref D) && Value.builtin "BaseException.__getattribute__" == Value.builtin "object.__getattribute__") = false := by
    rw [b2]
    rfl
  have b0 : (false && onTheHeap (Value.builtin "BaseException.__getattribute__")) = false := rfl
  unfold getAttr? getAttrBy? getAttrBy
  apply wpAny_bind
  apply wpAny_mkText
  apply wpAny_bind
  apply wpAny_attempt
  apply wpAny_holding
  refine wpAny_bind (k0.at ?_)
  refine wpAny_bind (k1.at ?_)
  show wpAny _ _ (if (onTheHeap (Value.ref D) && Value.builtin "BaseException.__getattribute__" == Value.builtin "object.__getattribute__") = true then _ else _) _ _ _
  rw [b1, if_neg Bool.false_ne_true]
  unfold getAttrByItsOwn hookBefore
  apply wpAny_bind
  rw [if_pos (show onTheHeap (Value.ref D) = true from rfl)]
  refine k2.at ?_
  apply wpAny_bind
  apply wpAny_attempt
  apply wpAny_holding
  unfold callGetattribute
  rw [b0, if_neg Bool.false_ne_true]
  unfold boundAndCalled
  rw [PySem.F.excAttr_ValueError.ga.bind (.ref x)]
  apply wpAny_bind
  apply wpAny_pure
  show wpAny _ _ (call (.builtin "BaseException.__getattribute__") [.ref x, .str "__class__" t]) _ _ _
  apply wpAny_call
  apply codeAny_call_builtin PySem.F.excAttr_ValueError.ga.plain PySem.F.entry_bexc_ga
  refine @PySem.W.check_slot (model prog w) _ _ ⟨hp, g, d, t + 1, os⟩ "BaseException.__getattribute__" "BaseException" "__getattribute__" (.ref x) [.str "__class__" t] [] _ (by decide +kernel) (by decide +kernel) ks (PySem.F.args_bexc_ga (.ref x) (.str "__class__" t)) ?_
  unfold Builtin.«object.__getattribute__»
  refine wpAny_bind (wpAny_of_eq (a := ((Value.ref x : Value), [Value.str "__class__" t])) (by first | rfl | (simp only [slotArgs]; rfl)) ?_)
  apply wpAny_bind
  apply wpAny_pure
  refine wpAny_bind (k0.at ?_)
  refine wpAny_bind (k3.at ?_)
  show wpAny _ _ (holding [Value.builtin "object.__class__"] (call (.builtin "getset_descriptor.__get__") [.builtin "object.__class__", .ref x, .ref D]) >>= ret) _ _ _
  apply wpAny_bind
  apply wpAny_holding
  apply wpAny_call
  refine PySem.W.class_get (s := ⟨hp, g, d, t + 1, os⟩) (ox := ox) (od := od) X I C.hm ?_
  apply wpAny_pure
  show wpAny _ _ (handedOut (.ref D)) _ _ _
  rw [PySem.W.handedOut_of (v := .ref D) rfl]
  first
    | exact wpAny_pure (wpAny_pure h)
    | exact wpAny_pure h
    | exact wpAny_pure (wpAny_bind (wpAny_pure (wpAny_pure h)))
theorem find_cls {K : PySem.W.Frag} {D : Addr} (C : ExcC K D) (od : Option Obj) : PySem.W.findObj K D od "__class__" = some (.bind (.builtin "getset_descriptor.__get__") (.builtin "object.__class__")) := by
  obtain ⟨cd, hc, _⟩ := PySem.W.any_some C.hd
  unfold PySem.W.findObj
  rw [hc, Option.bind_some, C.ha, Option.bind_some]
  simp [C.hn, C.ht]
theorem kit_exc {K : PySem.W.Frag} {x D : Addr} {ox : Obj} {od : Option Obj} (C : ExcC K D) : PySem.W.KitX K (.ref x) (.ref D) (fun h => PySem.W.InstAt h x ox D od) := by
  have cls : ∃ c' d' cd' sl', K.lookup D = some ⟨c', d', .cls cd', sl'⟩ := by
    obtain ⟨cd, hc, _⟩ := PySem.W.any_some C.hd
    unfold PySem.W.clsIn at hc
    split at hc
    · rename_i c' d' cd' sl' ho
      exact ⟨c', d', cd', sl', ho⟩
    · cases hc
  obtain ⟨c', d', cd', sl', ho⟩ := cls
  constructor
  · exact fun _ _ _ I => I.type
  · intro M h X _ A' Q' E' s' k q
    unfold isType loadHead
    exact wpAny_bind (wpAny_loadPart (k _ _ (X _ _ ho)) (wpAny_pure q))
  · intro h tp dd its n sl X htp
    cases e : (Value.ref D == Value.ref tp) with
    | false => rfl
    | true =>
      have e2 : D = tp := Value.ref.inj (beq_iff_eq.mp e)
      subst e2
      cases (X _ _ ho).symm.trans htp
  · exact fun X I k => kin_cls C (find_cls C od) X I k
/-- at a stands an exception of the class at C, with or without a dict -/
def AnyErr (H : Hp) (a C : Addr) : Prop := H a = some (exo a C none) ∨ ∃ d fs, H a = some (exo a C (some d)) ∧ H d = some (exd d fs)
theorem ErrAt.any {H : Hp} {a C : Addr} {v : V} (h : ErrAt H a C v) : AnyErr H a C := .inr (by obtain ⟨d, h1, h2⟩ := h; exact ⟨d, _, h1, h2⟩)
section
variable {X : Cx} {pins : List (Addr × Obj)} {σ : L2.St} {H : Hp} {s : Shared}
theorem inst_err {a C : Addr} (I : Inv X pins σ H s) (h : AnyErr H a C) : ∃ ox od, PySem.W.InstAt s.heap a ox C od ∧ (∀ d fs, H a = some (exo a C (some d)) → H d = some (exd d fs) → ∃ o mA, od = some o ∧ s.heap.Ns1 d mA ∧ (∀ f, RelO (fs.lookup f) (mA f)) ∧ s.heap.get? d = some o) := by
  rcases h with h | ⟨d, fs, h1, h2⟩
  · obtain ⟨t1, g⟩ := exo_at I.hok h
    refine ⟨_, none, ⟨g, rfl, rfl, trivial⟩, fun d fs e _ => ?_⟩
    have z : exo a C none = exo a C (some d) := Option.some.inj (h.symm.trans e)
    have z1 : (HO.ext _) = HO.ext _ := z
    have z2 := congrFun (HO.ext.inj z1) s.heap
    have z3 : (∃ t1 : Addr, s.heap.get? a = some ({ cls := .ref C, dict := some d, data := .fields #[.ref t1, .none, .none, .none, .bool false, .none] } : Obj)) := z2.mp ⟨t1, g⟩
    obtain ⟨t2, g2⟩ := z3
    rw [g] at g2
    cases g2
  · obtain ⟨t1, g⟩ := exo_at I.hok h1
    obtain ⟨mA, hns, rel⟩ := exd_at I.hok h2
    obtain ⟨od, ho, hl⟩ := lookIn_ns hns
    refine ⟨_, some od, ⟨g, rfl, rfl, ho⟩, fun d' fs' e e2 => ?_⟩
    have z : exo a C (some d) = exo a C (some d') := Option.some.inj (h1.symm.trans e)
    have z1 : (HO.ext _) = HO.ext _ := z
    have z2 := congrFun (HO.ext.inj z1) s.heap
    have z3 : (∃ t1 : Addr, s.heap.get? a = some ({ cls := .ref C, dict := some d', data := .fields #[.ref t1, .none, .none, .none, .bool false, .none] } : Obj)) := z2.mp ⟨t1, g⟩
    obtain ⟨t2, g2⟩ := z3
    rw [g] at g2
    cases g2
    obtain ⟨mA', hns', rel'⟩ := exd_at I.hok e2
    exact ⟨od, mA', rfl, hns', rel', ho⟩
/-- isinstance(e, c), e such an exception -/
def rIsX (K : PySem.W.Frag) : List V → Hp → VK → Prop := fun xs H Q => ∃ (a C : Addr) (c : V) (u : Value) (b : Bool), xs = [.ref a, c] ∧ AnyErr H a C ∧ ExcC K C ∧ ClsV c u ∧ PySem.W.kitOne K (.ref C) u = some b ∧ Q (.bl b) H
theorem call_isX : CallR X (.builtin "isinstance") (rIsX X.K) := by
  intro pins s σ H xs us Q I r h
  obtain ⟨a, C, c, u, b, rfl, he, hC, hc, hk, q⟩ := h
  obtain ⟨u1, u2, rfl, r1, r2⟩ := vals2 r
  cases (show u1 = Value.ref a from r1)
  have e2 := hc.eq r2
  subst e2
  obtain ⟨ox, od, J, _⟩ := inst_err I he
  exact PySem.W.kia_one (kit_exc hC) I.kIn J hk (fun z => nomatch z) fun tk => ⟨.bl b, H, I.tok tk, rfl, q⟩
/-- both: data and such exceptions -/
theorem call_is2 : CallR X (.builtin "isinstance") (fun xs H Q => rIsX X.K xs H Q ∨ rIsi X.K xs H Q) := by
  intro pins s σ H xs us Q I r h
  rcases h with h | h
  · exact call_isX pins s σ H xs us Q I r h
  · exact call_isi pins s σ H xs us Q I r h
/-! ### e.value -/
def tVal (K : PySem.W.Frag) (te : TE) : TE := fun σ H Q => te σ H fun x H1 => ∃ (a C fI : Addr) (v : V), x = .ref a ∧ ErrAt H1 a C v ∧ EC K C fI ∧ Q v H1
theorem pe_val {e : Expr} {te : TE} {pos : Pos} (he : PE X e te) (hb : attributeBase e "value" X.env (eval e X.env) = eval e X.env := by rfl) : PE X (.Attribute e "value" pos) (tVal X.K te) := by
  constructor
  intro pins s σ H Q I h
  refine attr_of hb (thn (he.run pins s σ H _ I h) fun u s1 hh => ?_)
  obtain ⟨x, H1, I1, rx, a, C, fI, v, ex, ⟨d, ha, hd⟩, T, q⟩ := hh
  subst ex
  cases (show u = Value.ref a from rx)
  obtain ⟨ox, od, J, z⟩ := inst_err I1 (.inr ⟨d, _, ha, hd⟩)
  obtain ⟨o, mA, rfl, hns, rel, ho⟩ := z d _ ha hd
  have l : List.lookup ("value" : Str) [(("value" : Str), v)] = some v := by simp [List.lookup]
  obtain ⟨u2, hu, ru⟩ := RelO.some_of (v := v) (o := mA "value") (by rw [← l]; exact rel "value")
  obtain ⟨od2, ho2, hl⟩ := lookIn_ns hns
  have eo : o = od2 := by
    rw [ho] at ho2
    exact Option.some.inj ho2
  subst eo
  exact PySem.HandSPX.exc_get I1.kIn J T.x.hg T.x.hk T.x.hs (PySem.W.findObj_own T.x.hd T.nv rfl (by rw [hl, hu])) (handed_of ru) ⟨v, H1, I1.tok _, ru, q⟩
end
end G1

set_option maxHeartbeats 4000000
namespace G1
open PySem PySem.Spec PyProof.Rows L2
/-! ### powers of any base -/
def CPowW (i j : Int) : Prop := 0 ≤ j ∧ (Builtin.Int.intBits i : Int) * j ≤ 2 ^ 27
/-! ### repr of data: lists, tuples, texts, small numbers, the empty dict -/
/-- what stands at a value, as data; beside Dp the empty dict -/
inductive Rp (K : PySem.W.Frag) (H : Hp) : V → PyData → Prop
  | dp {v : V} {d : PyData} : Dp K H v d → Rp K H v d
  | dct {a : Addr} : H a = some (.dK []) → Rp K H (.ref a) (.dict [])
section
variable {X : Cx}
theorem op_powW : OpR X (binaryOp .Pow) (rI CPowW fun i j => .int (i ^ j.toNat)) := opI fun _ _ _ _ _ _ _ hc q => pow_int hc.1 hc.2 q
theorem rp_reads {pins : List (Addr × Obj)} {σ : L2.St} {H : Hp} {s : Shared} (I : Inv X pins σ H s) {v : V} {u : Value} {d : PyData} (h : Rp X.K H v d) (r : RelV v u) (hs : d.hasDict = false ∨ d = .dict []) :
    ∃ as, Reads s.heap u d as ∧ (d.hasDict = true → sysModules ∉ as) := by
  cases h with
  | dp h =>
    obtain ⟨as, q⟩ := Dp.reads I d v u h r
    refine ⟨as, q, fun z => ?_⟩
    rcases hs with hs | hs
    · rw [hs] at z
      cases z
    · subst hs
      cases h
  | @dct a e =>
    cases (show u = Value.ref a from r)
    obtain ⟨_, hsys, vs, kv, o, es, ep, h1, h2, h3, _, h5, _⟩ := (show ObjOk X.prog X.w H s.heap a (.dK []) from I.hok a _ e)
    have e0 : vs = [] := by
      cases kv
      rfl
    subst e0
    have e1 : es.toList = [] := by
      cases h5' : es.toList with
      | nil => rfl
      | cons x l =>
        rw [h5'] at h5
        cases h5
    refine ⟨[a], ?_, fun _ z => ?_⟩
    · have R := Reads.dict (h := s.heap) (a := a) (kvs := []) (as := []) (bs := []) h1 h2.1 h3 (by rw [e1]; exact .nil) (by rw [e1]; exact .nil)
      exact R
    · have ea : sysModules = a := List.mem_singleton.mp z
      rw [← ea] at hsys
      simp at hsys
def rRepr (K : PySem.W.Frag) : List V → Hp → VK → Prop := fun xs H Q => ∃ (v : V) (d : PyData), xs = [v] ∧ Rp K H v d ∧ (d.hasDict = false ∨ d = .dict []) ∧ d.showable = true ∧ d.depth ≤ 60 ∧ d.shown.length ≤ sizeLine ∧ Q (.str d.shown) H
theorem call_repr (hgd : Gd X.A) (hu : X.A.units + 64 < cLine) : CallR X (.builtin "repr") (rRepr X.K) := by
  intro pins s σ H xs us Q I r h
  obtain ⟨v, d, rfl, hr, hs, hsh, hdp, hl, q⟩ := h
  obtain ⟨u, rfl, ru⟩ := vals1 r
  have fin : ∀ (h' : Heap) (t : Tok) (tk : Nat), (∀ b o, s.heap.get? b = some o → h'.get? b = some o) → EP X pins σ Q (.str d.shown t) { s with heap := h', toks := tk } :=
    fun h' t tk k => ⟨.str d.shown, H, I.kept k, ⟨t, rfl⟩, q⟩
  have fin0 : ∀ (t : Tok), EP X pins σ Q (.str d.shown t) { s with toks := s.toks + 1 } := fun t => fin s.heap t _ fun _ _ e => e
  obtain ⟨as, hR, hsm⟩ := rp_reads I hr ru hs
  cases hR with
  | none => exact PySem.P.repr_of_none (fin0 _)
  | bool b => exact PySem.P.repr_of_bool (fin0 _)
  | int i t => exact PySem.P.repr_of_int (by simpa [PyData.showable] using hsh) (fin0 _)
  | str x t => exact PySem.P.repr_of_str (fin0 _) hl
  | list h1 h2 h3 h4 => exact repr_of_reads' (.list h1 h2 h3 h4) hsh hsm hgd (by omega) (fun _ _ e => e) (fun h' u tk k => fin h' u tk k) hl
  | tuple h1 h2 h3 h4 => exact repr_of_reads' (.tuple h1 h2 h3 h4) hsh hsm hgd (by omega) (fun _ _ e => e) (fun h' u tk k => fin h' u tk k) hl
  | dict h1 h2 h3 h4 h5 => exact repr_of_reads' (.dict h1 h2 h3 h4 h5) hsh hsm hgd (by omega) (fun _ _ e => e) (fun h' u tk k => fin h' u tk k) hl
end
end G1

set_option maxHeartbeats 4000000
namespace G1
open PySem PySem.Spec PyProof.Rows L2
section
variable {X : Cx}
/-- C(), C an own exception class without an own __init__ -/
def tMkN (C : Addr) : TE := fun _ H Q => ∀ a, H a = none → Q (.ref a) (upd H a (exo a C none))
theorem pe_mkN {C : Addr} {x : Str} {p pos : Pos} (q : PySem.W.excIn X.K C He.veBase "ValueError.__new__" = true) (kC : PySem.W.keepIn X.K (.ref C) = true) (hg : Gl X x) (gC : X.mg x = some (.ref C))
    (hdb : (x == ("__debug__" : Str)) = false := by decide) : PE X (.Call (.Name x p) [] [] pos) (tMkN C) := by
  constructor
  intro pins s σ H Q I h
  apply wpAny_Call_Name_kw (ld_glob I hg gC ?_ hdb)
  refine PySem.W.callWith_K0 I.kIn kC ?_
  obtain ⟨bm, N, nm, qn, bs, hdct, sn, sub, ab, col, dd, k0, k1, k2, k3, k5, mN, hC, hN, hni, T⟩ := exc_obj I.kIn q
  refine wpAny_call_exc_subT F.excBase_ValueError T hC hN hni (fun h' a hm => ?_) (by show 0 ≤ sizeLine; exact Nat.zero_le _)
  have hn : H a = none := I.hok.gone hm.new
  obtain ⟨t, ht, _, _⟩ := hm.there
  exact ⟨.ref a, upd H a (exo a C none), I.laidN hm.keeps hm.new hn (exo_ok ht), rfl, h a hn⟩
end
end G1

set_option maxHeartbeats 4000000
/-! len(set(texts)) of a list of texts, however many. -/
namespace G1
open PySem PySem.Spec PyProof.Rows L2
def memS (xs : List Str) (i : Nat) : Str → Bool := fun k => (xs.take i).any (· == k)
def cntS (xs : List Str) : Nat → Nat
  | 0 => 0
  | i + 1 => if memS xs i (xs.getD i Str.empty) then cntS xs i else cntS xs i + 1
theorem cntS_le (xs : List Str) : ∀ i, cntS xs i ≤ i
  | 0 => Nat.le_refl 0
  | i + 1 => by
    have := cntS_le xs i
    unfold cntS
    split <;> omega
theorem memS_iff {xs : List Str} {i : Nat} {k : Str} : memS xs i k = true ↔ k ∈ xs.take i := by
  unfold memS
  rw [List.any_eq_true]
  constructor
  · rintro ⟨z, hz, e⟩
    rw [← eq_of_beq e]
    exact hz
  · exact fun h => ⟨k, h, beq_self_eq_true _⟩
theorem take_next {xs : List Str} {i : Nat} (h : i < xs.length) : xs.take (i + 1) = xs.take i ++ [xs.getD i Str.empty] := by
  rw [List.take_succ, List.getD_eq_getElem?_getD, List.getElem?_eq_getElem h]
  rfl
theorem cntS_full (xs : List Str) : ∀ i, i ≤ xs.length → (cntS xs i = i ↔ (xs.take i).Nodup)
  | 0, _ => by simp [cntS]
  | i + 1, h => by
    have ih := cntS_full xs i (by omega)
    have le := cntS_le xs i
    rw [take_next (by omega), List.nodup_append]
    unfold cntS
    by_cases m : memS xs i (xs.getD i Str.empty) = true
    · rw [if_pos m]
      refine ⟨fun e => by omega, fun ⟨_, _, d⟩ => absurd rfl (d _ (memS_iff.mp m) _ (List.mem_singleton.mpr rfl))⟩
    · rw [if_neg m]
      refine ⟨fun e => ⟨ih.mp (by omega), List.pairwise_singleton _ _, fun a ha b hb q => ?_⟩, fun ⟨d, _⟩ => by rw [ih.mpr d]⟩
      rw [List.mem_singleton.mp hb] at q
      exact m (memS_iff.mpr (q ▸ ha))
section
variable {prog : Program} {w : World} {A : Around} {R : Result → Shared → Prop} {I : Addr} {fp wr : List Addr} {G : Array GenState → Array GenState → Prop} {n : Nat} {P : Nat → Value → Prop} {St : Nat → Shared → Prop}
theorem set_same {h h' : Heap} {a : Addr} {M : Str → Bool} {n : Nat} (k : ∀ o, h.get? a = some o → h'.get? a = some o) (z : h.SetOf (PySem.strKind prog w) a M n) : h'.SetOf (PySem.strKind prog w) a M n := by
  obtain ⟨o, es, ep, tb, ho, z⟩ := z
  exact ⟨o, es, ep, tb, k o ho, z⟩
theorem strLoop (W : WalksS prog w A.in1 I fp wr G n P St) {a : Addr} (na : a ∉ fp) {xs : List Str} (len : xs.length = n) (hb : n < scanBound) (hv : ∀ i v, P i v → ∃ t, v = .str (xs.getD i Str.empty) t) (m : Nat) :
    ∀ (i : Nat) (s : Shared), i + m = n → St i s → s.heap.SetOf (PySem.strKind prog w) a (memS xs i) (cntS xs i) →
      (∀ s', Moved (a :: wr) G s s' → s'.heap.SetOf (PySem.strKind prog w) a (memS xs n) (cntS xs n) → R (.ok (.ret .none)) s') →
      codeAny (model prog w) A (.builtin "set.update.loop" ⟨[.ref a, .ref I], []⟩) R s := by
  have nw : a ∉ wr := fun z => na (W.sub _ z)
  have up : ∀ b ∈ wr, b ∈ a :: wr := fun _ z => List.mem_cons_of_mem _ z
  induction m with
  | zero =>
    intro i s e hst hS k
    obtain rfl : i = n := by omega
    refine codeAny_builtin PyProof.Rows.F.entry_set_update_loop ?_
    rw [Around.under_plainId PyProof.Rows.F.plain_set_update_loop _]
    exact wpAny_bind (W.done s _ _ hst fun s' hm => wpAny_pure (k s' (hm.mono up) (set_same (fun o => hm.heap a o nw) hS)))
  | succ m ih =>
    intro i s e hst hS k
    have lt : i < n := by omega
    refine codeAny_builtin PyProof.Rows.F.entry_set_update_loop ?_
    rw [Around.under_plainId PyProof.Rows.F.plain_set_update_loop _]
    refine wpAny_bind (W.item i s _ _ lt hst fun v s' hP hst' hm => ?_)
    obtain ⟨t, rfl⟩ := hv i v hP
    have hS1 := set_same (fun o => hm.heap a o nw) hS
    have le := cntS_le xs i
    show wpAny _ A.in1 (holding [Value.str (xs.getD i Str.empty) t] (setAdd a (.str (xs.getD i Str.empty) t)) >>= _) _ _ s'
    refine wpAny_bind (wpAny_holding (by
      unfold setAdd
      refine wpAny_holding (wpAny_bind ((PySem.strKind prog w).pyHash (k := xs.getD i Str.empty) (strKind_is _ _ _ _) ?_))
      refine wpAny_setAddHashed_of (knd := PySem.strKind prog w) (s := { s' with toks := s'.toks + 1 }) (strKind_is _ _ _ _) rfl hS1 (by omega) fun h' sb hS2 => ?_
      have hS3 : h'.SetOf (PySem.strKind prog w) a (memS xs (i + 1)) (cntS xs (i + 1)) := by
        refine SetOf_congr hS2 (fun z => ?_) rfl
        show ((xs.take i).any (· == z) || decide (z = xs.getD i Str.empty)) = (xs.take (i + 1)).any (· == z)
        rw [take_next (by omega), List.any_append]
        congr 1
        by_cases q : z = xs.getD i Str.empty
        · simp [q]
        · have q2 : (xs.getD i Str.empty == z) = false := beq_eq_false_iff_ne.mpr (Ne.symm q)
          simp only [List.any_cons, List.any_nil, q2, Bool.or_false, decide_eq_false q]
      refine wpAny_pure ⟨plainId_quiet PyProof.Rows.F.plain_set_update_loop _, ih (i + 1) _ (by omega) ?_ hS3 fun s2 hm2 hS4 => k s2 (Moved.trans W.gtrans ((hm.mono up).then_heap (Nat.le_succ _) fun b o hb q => ?_) hm2) hS4⟩
      · refine W.frame _ s' _ _ hst' (Nat.le_succ _) fun b hb o q => ?_
        exact (sb.2 b fun z => na (z ▸ hb)).trans q
      · exact (sb.2 b fun z => hb (z ▸ List.mem_cons_self)).trans q))
end
section
variable {prog : Program} {w : World} {A : Around} {E : Value → Shared → Prop} {s : Shared}
/-- what set(l) leaves behind -/
def SetLeft (prog : Program) (w : World) (s : Shared) (xs : List Str) (h' : Heap) : Prop :=
  h'.SetOf (PySem.strKind prog w) s.heap.objs.size (memS xs xs.length) (cntS xs xs.length) ∧ ∀ b o, b < s.heap.objs.size → s.heap.get? b = some o → h'.get? b = some o
abbrev emptySet (led : Bool) : Obj := { cls := .type "set", dict := none, data := .set #[] 0 (.fresh 0 0 led) }
theorem call_setS {l : Addr} {items : Array Value} {xs : List Str} {Q : Value → Shared → Prop} (hh : A.handled = none) (hl : s.heap.IsList l items) (hi : StrsAre items.toList xs) (hb : xs.length < scanBound)
    (k : ∀ (h' : Heap) (tk : Nat), SetLeft prog w s xs h' → Q (.ref s.heap.objs.size) { s with heap := h', toks := tk }) : wpAny (model prog w) A (call (.type "set") [.ref l]) Q E s := by
  have len : xs.length = items.size := by rw [← StrsAre.len_eq hi, Array.length_toList]
  obtain ⟨cT, tT, hmro⟩ := PySem.F.called_set.mro
  have y1 := PySem.F.called_set.made
  have y2 := PySem.F.called_set.sub
  have y3 := PySem.F.called_set.notType
  have y4 := PySem.F.called_set.canCreate
  have y5 := PySem.F.typeCall_set_1 (.ref l)
  refine wpAny_call (codeAny_of_tree (show wpAny _ _ (callAny (.type "set") _) _ _ _ from wpAny_pure ⟨Code.quiet_builtin _ (by decide +kernel), codeAny_builtin PySem.F.entry_type_call ?_⟩))
  rw [Around.under_plain (weight_type_call_type "set" [.ref l] []) rfl]
  repeat (any_goals (first | assumption | wp_step))
  refine codeAny_mono (code_set_new_1 (.ref l) (E := E) (Q₁ := fun obj s₁ => ∃ led : Bool, obj = .ref s.heap.objs.size ∧ s₁ = { s with heap := s.heap.push (emptySet led) }) fun led => ⟨led, rfl, rfl⟩) fun r s₁ hr => ?_
  match r, hr with
  | .error e, hr => exact hr
  | .ok (.ret obj), hr =>
    obtain ⟨led, rfl, rfl⟩ := hr
    have hS : (s.heap.push (emptySet led)).get? s.heap.objs.size = some (emptySet led) := Heap.get?_push_size _ rfl
    have hT : Shared.TypeIs { s with heap := s.heap.push (emptySet led) } (.ref s.heap.objs.size) "set" := ⟨_, hS, rfl⟩
    have i1 := PySem.F.called_set.init.lookup
    have i2 := PySem.F.called_set.init.bind (.ref s.heap.objs.size)
    repeat (any_goals (first | assumption | wp_step))
    refine codeAny_mono (codeAny_call_builtin (R := wants (fun r s₂ => r = .none ∧ ∃ h' tk, s₂ = { s with heap := h', toks := tk } ∧ SetLeft prog w s xs h') E) PySem.F.called_set.init.plain PySem.F.entry_set_init (check_set_init_1 hT ?_)) fun r₂ s₂ hr₂ => ?_
    · obtain ⟨⟨oc, od, dt, osl⟩, ho, hc, nl, hd⟩ := hl
      dsimp only at hc hd
      subst hc hd
      have lt : l < s.heap.objs.size := Heap.lt_size ho
      have ho1 : (s.heap.push (emptySet led)).get? l = some { cls := .type "list", dict := od, data := .seq items nl, slots := osl } := Heap.get?_push_of_some _ ho
      have z1 := PySem.F.sub_list_set
      have z2 := PySem.F.sub_list_frozenset
      have z3 : (Value.type "list" == Value.type "dict") = false := by decide
      have L1 : (s.heap.push (emptySet led)).IsList l items := ⟨_, ho1, rfl, nl, rfl⟩
      unfold Builtin.«set.__init__» noKeywords Builtin.Frozenset.updateFrom
      generalize hPI : pyIter = PI
      wp_walk
      subst hPI
      refine wpAny_pyIter_list L1 (wpAny_bind (wpAny_runValue ?_))
      have ne1 : l ≠ (s.heap.push (emptySet led)).objs.size := by
        rw [Heap.size_push]
        exact Nat.ne_of_lt (Nat.lt_succ_of_lt lt)
      have ne2 : s.heap.objs.size ∉ [(s.heap.push (emptySet led)).objs.size, l] := by
        rw [Heap.size_push]
        simp only [List.mem_cons, List.not_mem_nil, or_false, not_or]
        exact ⟨Nat.ne_of_lt (Nat.lt_succ_self _), Nat.ne_of_gt lt⟩
      refine strLoop ((Walks.list (by simp [hh]) _ l ne1 items).toS) ne2 len (by rw [← len]; exact hb) (fun i v e => SS.strs_at hi i v (by rw [Array.getElem?_toList]; exact e)) items.size 0 _ (by omega) ⟨⟨_, Heap.get?_push_size _ rfl, rfl, rfl⟩, L1.push _⟩ ?_ ?_
      · exact SetOf_congr ((setObjOf_fresh (knd := PySem.strKind prog w) led).setOf (Heap.get?_push_of_some _ hS) (by unfold scanBound; omega)) (fun _ => rfl) rfl
      · intro s' hm hS'
        obtain ⟨h', g', d', tk', os'⟩ := s'
        obtain rfl : g' = s.gens := hm.gens
        obtain rfl : d' = s.drawn := hm.drawn
        obtain rfl : os' = s.os := hm.os
        rw [← len] at hS'
        refine wpAny_pure (wpAny_pure ⟨rfl, h', tk', rfl, hS', fun b o lb e => hm.heap b o ?_ (Heap.get?_push_of_some _ (Heap.get?_push_of_some _ e))⟩)
        simp only [List.mem_cons, List.not_mem_nil, or_false, not_or]
        rw [Heap.size_push]
        exact ⟨Nat.ne_of_lt lb, Nat.ne_of_lt (Nat.lt_succ_of_lt lb)⟩
    · match r₂, hr₂ with
      | .error e, hr₂ => exact hr₂
      | .ok (.ret r), hr₂ =>
        obtain ⟨rfl, h', tk, rfl, left⟩ := hr₂
        repeat (any_goals (first | assumption | wp_step))
        exact k _ _ left
end
end G1

set_option maxHeartbeats 4000000
namespace G1
open PySem PySem.Spec PyProof.Rows L2
section
variable {X : Cx}
def tLenStrs (K : PySem.W.Frag) (ta : TE) : TE := fun σ H Q => ta σ H fun x H1 => ∃ l, ∃ xs : List Str, x = .ref l ∧ SqL K H1 l (xs.map V.str) ∧ xs.length ≤ 1000 ∧ Q (.int (cntS xs xs.length)) H1
theorem pe_lenStrs {a : Expr} {ta : TE} {p p2 q pos : Pos} (hc : X.calm = true) (g1 : Gl X "len") (m1 : X.mg "len" = none) (g2 : Gl X "set") (m2 : X.mg "set" = none) (ha : PE X a ta) (na : starEach [a] X.env = (false, eval a X.env) :: starEach [] X.env := by rfl) :
    PE X (.Call (.Name "len" p) [.Call (.Name "set" p2) [a] [] q] [] pos) (tLenStrs X.K ta) := by
  refine ⟨fun pins s σ H Q I h => Call_ (ld_blt I g1 m1 boot_len (callWith_builtin1 (args_cons (Call_ (ld_blt I g2 m2 boot_set ?_)) rfl) rfl rfl))⟩
  refine callWith_type1 (args_cons (thn (ha.run pins s σ H _ I h) fun v s1 ⟨x, H1, I1, r1, q1⟩ => args_nil ?_) na) na rfl
  obtain ⟨l, xs, rfl, hq, hb, q1⟩ := q1
  cases r1
  obtain ⟨its, r, pl, hz⟩ := I1.list hq
  have le := cntS_le xs xs.length
  refine call_setS (I1.ok.hd hc) pl.isList (xs := xs) (by simpa using strsAre_of r) (by unfold scanBound; omega) fun h' tk left => args_nil ?_
  obtain ⟨⟨o, es, ep, t, ho, hex, hd, _, _, _, hf, hn⟩, keep⟩ := left
  have I2 : Inv X pins σ H1 { s1 with heap := h', toks := tk } := I1.kept fun b o e => keep b o (Heap.lt_size e) e
  exact call_len_set ho hex hd hf (by rw [hn]; omega) ⟨.int (cntS xs xs.length), H1, I2.tok _, ⟨_, by rw [hn]⟩, q1⟩
end
end G1

set_option maxHeartbeats 4000000
/-! sorted(set(list)) of texts and of ints: a set of keys of one kind whose table can be walked. -/
namespace G1
open PySem PySem.Spec PyProof.Rows L2
/-- keys of one kind, as values -/
structure KX (P : Program) (w : World) (κ : Type) [DecidableEq κ] where
  kd : PySem.KeyKind P w κ
  val : κ → Tok → Value
  key : Value → κ
  is_ : ∀ k t, kd.is k (val k t) = true
  key_ : ∀ k t, key (val k t) = k
  sc : ∀ k t, (val k t).scannable = true
def strX (P : Program) (w : World) : KX P w Str := ⟨strKind P w, .str, fun v => match v with | .str k _ => k | _ => Str.empty, fun k t => strKind_is P w k t, fun _ _ => rfl, fun _ _ => rfl⟩
def intX (P : Program) (w : World) : KX P w Int := ⟨intKind P w, .int, fun v => match v with | .int k _ => k | _ => 0, fun k t => intKind_is P w k t, fun _ _ => rfl, fun _ _ => rfl⟩
section
variable {P : Program} {w : World} {κ : Type} [DecidableEq κ] (X : KX P w κ)
def KX.Good (e : Int × Value) : Prop := ∃ k t, e.2 = X.val k t ∧ e.1 = X.kd.hash k
def KX.ky (e : Int × Value) : κ := X.key e.2
/-- the set at a: M its members, at most m of them -/
def SetM (h : Heap) (a : Addr) (M : κ → Bool) (m : Nat) : Prop :=
  ∃ o es ep t, h.get? a = some o ∧ o.ExactSet ∧ o.data = .set es ep t ∧ (∀ e ∈ es.toList, X.Good e) ∧ (es.toList.map X.ky).Nodup ∧ (∀ k, M k = true ↔ k ∈ es.toList.map X.ky) ∧ es.size < scanBound ∧ t.fits es.size = true ∧ es.size ≤ m ∧
    Ris t.place.toList ∧ (w.params.followText "set-order" = true ∨ t.led = true)
end
section
variable {P : Program} {w : World} {κ : Type} [DecidableEq κ] {X : KX P w κ} {h h' : Heap} {a : Addr} {M : κ → Bool} {m : Nat}
theorem SetM.keep (R : SetM X h a M m) (k : ∀ o, h.get? a = some o → h'.get? a = some o) : SetM X h' a M m := by
  obtain ⟨o, es, ep, t, ho, z⟩ := R
  exact ⟨o, es, ep, t, k o ho, z⟩
theorem SetM.congr {M' : κ → Bool} (R : SetM X h a M m) (e : ∀ k, M' k = M k) : SetM X h a M' m := by
  rw [funext e]
  exact R
theorem KX.is_iff (k j : κ) (t : Tok) : X.kd.is j (X.val k t) = true ↔ k = j :=
  ⟨fun z => X.kd.inj _ _ _ (X.is_ k t) z, fun z => z ▸ X.is_ k t⟩
theorem KX.elems {l : List (Int × Value)} (g : ∀ e ∈ l, X.Good e) : ElemsOf X.kd l := fun e he => by
  obtain ⟨k, t, z1, z2⟩ := g e he
  rw [z1]
  exact ⟨⟨k, X.is_ k t, z2⟩, X.sc k t⟩
theorem KX.mem_iff {l : List (Int × Value)} (g : ∀ e ∈ l, X.Good e) (k : κ) : k ∈ l.map X.ky ↔ ∃ e ∈ l, X.kd.is k e.2 = true := by
  have one : ∀ e ∈ l, (X.ky e = k ↔ X.kd.is k e.2 = true) := fun e he => by
    obtain ⟨j, t, z1, _⟩ := g e he
    unfold KX.ky
    rw [z1, X.key_, X.is_iff]
  rw [List.mem_map]
  exact ⟨fun ⟨e, he, q⟩ => ⟨e, he, (one e he).mp q⟩, fun ⟨e, he, q⟩ => ⟨e, he, (one e he).mpr q⟩⟩
end
section
variable {P : Program} {w : World} {A : Around} {E : Value → Shared → Prop} {s : Shared} {κ : Type} [DecidableEq κ] {X : KX P w κ} {a : Addr} {M : κ → Bool} {m : Nat}
theorem put_at {h : Heap} {o : Obj} {es es' : Array (Int × Value)} {ep : Nat} {t t' : SetTable} (ho : h.get? a = some o) (hd : o.data = .set es ep t) : (h.update a (Obj.putSet es' t')).get? a = some { o with data := .set es' (ep + 1) t' } := by
  have z := Heap.get?_update_self (Obj.putSet es' t') ho (by rw [putSet_of es' t' hd]; rfl)
  rwa [putSet_of es' t' hd] at z
/-- the table is stored, and laid anew where it is too full -/
theorem setM_tail {g : Bool → Sem Unit} (hg : ∀ (b : Bool) (s2 : Shared) (Q2 : Unit → Shared → Prop), Q2 () s2 → wpAny (model P w) A (g b) Q2 E s2) {o : Obj} {es : Array (Int × Value)} {ep : Nat} {t : SetTable} (ho : s.heap.get? a = some o) (hx : o.ExactSet)
    (hd : o.data = .set es ep t) {ea : Array (Int × Value)} {tb : SetTable} {N : κ → Bool} (ga : ∀ e ∈ ea.toList, X.Good e) (da : (ea.toList.map X.ky).Nodup) (ma : ∀ k, N k = true ↔ k ∈ ea.toList.map X.ky) (ba : ea.size < scanBound) (fa : tb.fits ea.size = true)
    (ra : Ris tb.place.toList) (la : w.params.followText "set-order" = true ∨ tb.led = true) {dm : Bool} {R : Option Bool → Shared → Prop} (hR : ∀ h2, Heap.SameBut a s.heap h2 → SetM X h2 a N ea.size → R (some true) { s with heap := h2 }) :
    wpAny (model P w) A (do
        storeSet a ea tb
        if (!dm && tb.tooFull) = true then do
            g (relayAll tb ea (SetTable.grown ea.size)).2.2
            storeSet a (relayAll tb ea (SetTable.grown ea.size)).1 (relayAll tb ea (SetTable.grown ea.size)).2.1
            pure (some true)
          else pure (some true)) R E s := by
  have o1 := put_at (es' := ea) (t' := tb) ho hd
  have b1 := Heap.SameBut.update s.heap a (Obj.putSet ea tb)
  refine wpAny_bind (wpAny_storeSet_of ho hd ?_ (fits_of_scanBound ba))
  split
  · have y1 := relayAll_perm tb ea (SetTable.grown ea.size)
    have y2 := relayAll_fits tb ea (SetTable.grown ea.size)
    have y3 := relayAll_ris tb ea (SetTable.grown ea.size)
    have y4 := relayAll_led tb ea (SetTable.grown ea.size)
    generalize relayAll tb ea (SetTable.grown ea.size) = Y at y1 y2 y3 y4 ⊢
    obtain ⟨eb, tc, gv⟩ := Y
    dsimp only at y1 y2 y3 y4 ⊢
    have sz : eb.size = ea.size := by rw [← Array.length_toList, y1.length_eq, Array.length_toList]
    have bb : eb.size < scanBound := sz ▸ ba
    refine wpAny_bind (hg _ _ _ (wpAny_bind (wpAny_storeSet_of o1 rfl ?_ (fits_of_scanBound bb))))
    refine wpAny_pure (hR _ (b1.trans (Heap.SameBut.update _ a _)) ⟨_, eb, _, tc, put_at (es' := eb) (t' := tc) o1 rfl, hx, rfl, fun e he => ga e (y1.mem_iff.mp he), (y1.map X.ky).nodup_iff.mpr da, fun k => (ma k).trans (y1.map X.ky).mem_iff.symm, bb, y2, Nat.le_of_eq sz, y3, ?_⟩)
    exact la.imp id fun z => y4.trans z
  · exact wpAny_pure (hR _ b1 ⟨_, ea, _, tb, o1, hx, rfl, ga, da, ma, ba, fa, Nat.le_refl _, ra, la⟩)
theorem setM_add {k : κ} {tk : Tok} {Q : Bool → Shared → Prop} (R : SetM X s.heap a M m) (room : m + 1 < scanBound)
    (hQ : ∀ h2 b, Heap.SameBut a s.heap h2 → SetM X h2 a (fun j => M j || decide (j = k)) (m + 1) → Q b { s with heap := h2 }) : wpAny (model P w) A (setAddHashed a (X.val k tk) (X.kd.hash k)) Q E s := by
  obtain ⟨o, es, ep, t, ho, hx, hd, g, dd, hm, hb, hf, hn, hr, hl⟩ := R
  have hk := X.is_ k tk
  have sc := X.sc k tk
  have el := KX.elems g
  unfold setAddHashed setAddHashedIn
  refine wpAny_holding (wpAny_bind (wpAny_setState_of ho hd hf ?_))
  dsimp only
  rw [byScan_of sc hb el]
  simp only [↓reduceIte]
  unfold setAddByScan
  refine wpAny_bind (wpAny_bind (wpAny_rule (wpAny_bind (wpAny_setScan_of hk ho hd hf el ?_))))
  cases fi : List.findIdx? (fun e => X.kd.is k e.2) es.toList with
  | some j =>
    dsimp only
    obtain ⟨lj, pj, _⟩ := List.findIdx?_eq_some_iff_getElem.mp fi
    have Mk : M k = true := (hm k).mpr ((KX.mem_iff g k).mpr ⟨_, List.getElem_mem lj, pj⟩)
    refine wpAny_pure (wpAny_pure (hQ s.heap _ (Heap.SameBut.refl a s.heap) ⟨o, es, ep, t, ho, hx, hd, g, dd, fun i => ?_, hb, hf, Nat.le_succ_of_le hn, hr, hl⟩))
    rw [Bool.or_eq_true, decide_eq_true_eq, ← hm i]
    exact ⟨fun z => z.elim id fun e => e ▸ Mk, .inl⟩
  | none =>
    dsimp only
    have nk : k ∉ es.toList.map X.ky := fun z => by
      obtain ⟨e, he, q⟩ := (KX.mem_iff g k).mp z
      have c := List.findIdx?_eq_none_iff.mp fi e he
      rw [q] at c
      cases c
    have gw : ∀ (b : Bool) {s2 : Shared} {Q2 : Unit → Shared → Prop}, Q2 () s2 → wpAny (model P w) A (match b with | true => rule "set.scan.the-table-gave-way" | false => pure ()) Q2 E s2 := fun b s2 Q2 q => by
      cases b
      · exact wpAny_pure q
      · exact wpAny_rule q
    have y1 := layNew_perm t es (X.kd.hash k) (X.val k tk)
    have y2 := layNew_fits t es (X.kd.hash k) (X.val k tk)
    have y3 := layNew_ris t es (X.kd.hash k) (X.val k tk) hr
    have y4 := layNew_led t es (X.kd.hash k) (X.val k tk)
    generalize layNew t es (X.kd.hash k) (X.val k tk) = Y at y1 y2 y3 y4 ⊢
    obtain ⟨ea, tb, dm, gv⟩ := Y
    dsimp only at y1 y2 y3 y4 ⊢
    rw [Array.toList_push] at y1
    have pc : ea.toList.Perm ((X.kd.hash k, X.val k tk) :: es.toList) := y1.trans (List.perm_append_singleton _ _)
    have kk : X.ky (X.kd.hash k, X.val k tk) = k := X.key_ k tk
    have pk : (ea.toList.map X.ky).Perm (k :: es.toList.map X.ky) := by
      have z := pc.map X.ky
      rw [List.map_cons, kk] at z
      exact z
    have ga : ∀ e ∈ ea.toList, X.Good e := fun e he => by
      rcases List.mem_cons.mp (pc.mem_iff.mp he) with z | z
      · exact z ▸ ⟨k, tk, rfl, rfl⟩
      · exact g e z
    have da : (ea.toList.map X.ky).Nodup := pk.nodup_iff.mpr (List.nodup_cons.mpr ⟨nk, dd⟩)
    have ma : ∀ i, (M i || decide (i = k)) = true ↔ i ∈ ea.toList.map X.ky := fun i => by
      rw [Bool.or_eq_true, decide_eq_true_eq, pk.mem_iff, List.mem_cons, hm i]
      exact Or.comm
    have sz : ea.size = es.size + 1 := by rw [← Array.length_toList, pc.length_eq, List.length_cons, Array.length_toList]
    have ba : ea.size < scanBound := by omega
    have la : w.params.followText "set-order" = true ∨ tb.led = true := hl.imp id fun z => y4.trans z
    have fin : ∀ h2, Heap.SameBut a s.heap h2 → SetM X h2 a (fun j => M j || decide (j = k)) ea.size → Q true { s with heap := h2 } := fun h2 sb z => by
      obtain ⟨o2, e2, p2, t2, z1, z2, z3, z4, z5, z6, z7, z8, z9, z10⟩ := z
      exact hQ h2 _ sb ⟨o2, e2, p2, t2, z1, z2, z3, z4, z5, z6, z7, z8, by omega, z10⟩
    have gw2 : ∀ (b : Bool) (s2 : Shared) (Q2 : Unit → Shared → Prop), Q2 () s2 → wpAny (model P w) A (match b with | true => rule "set.scan.the-table-gave-way" | false => pure ()) Q2 E s2 := fun b s2 Q2 q => gw b q
    refine wpAny_bind (gw _ ?_)
    split
    · refine wpAny_bind ?_
      rw [hashByValue_scannable 8 sc]
      refine wpAny_pure (setM_tail ?_ ho hx hd ga da ma ba ?_ ?_ ?_ ?_)
      · intro b s2 Q2 q
        cases b <;> first | exact wpAny_pure q | exact wpAny_rule q
      · first | (split <;> first | exact y2 | exact SetTable.fits_plain_off y2) | exact y2
      · first | (split <;> exact y3) | exact y3
      · first | (split <;> exact la) | exact la
      · intro h2 sb z
        dsimp only
        exact wpAny_pure (fin h2 sb z)
    · refine wpAny_bind (wpAny_pure ?_)
      simp only [↓reduceIte]
      refine setM_tail ?_ ho hx hd ga da ma ba y2 y3 la ?_
      · intro b s2 Q2 q
        cases b <;> first | exact wpAny_pure q | exact wpAny_rule q
      · intro h2 sb z
        dsimp only
        exact wpAny_pure (fin h2 sb z)
end
/-- the first i of these -/
def memX {κ : Type} [DecidableEq κ] (xs : List κ) (i : Nat) : κ → Bool := fun k => decide (k ∈ xs.take i)
section
variable {P : Program} {w : World} {A : Around} {R : Result → Shared → Prop} {I : Addr} {fp wr : List Addr} {G : Array GenState → Array GenState → Prop} {n : Nat} {Pv : Nat → Value → Prop} {St : Nat → Shared → Prop} {κ : Type} [DecidableEq κ] {X : KX P w κ}
theorem loopX (W : WalksS P w A.in1 I fp wr G n Pv St) {a : Addr} (na : a ∉ fp) {xs : List κ} (len : xs.length = n) (hb : n + 1 < scanBound) (hv : ∀ i v, Pv i v → ∃ k t, xs[i]? = some k ∧ v = X.val k t) (m : Nat) :
    ∀ (i : Nat) (s : Shared), i + m = n → St i s → SetM X s.heap a (memX xs i) i → (∀ s2, Moved (a :: wr) G s s2 → SetM X s2.heap a (memX xs n) n → R (.ok (.ret .none)) s2) →
      codeAny (model P w) A (.builtin "set.update.loop" ⟨[.ref a, .ref I], []⟩) R s := by
  have nw : a ∉ wr := fun z => na (W.sub _ z)
  have up : ∀ b ∈ wr, b ∈ a :: wr := fun _ z => List.mem_cons_of_mem _ z
  induction m with
  | zero =>
    intro i s e hst hS k
    obtain rfl : i = n := by omega
    refine codeAny_builtin PyProof.Rows.F.entry_set_update_loop ?_
    rw [Around.under_plainId PyProof.Rows.F.plain_set_update_loop _]
    exact wpAny_bind (W.done s _ _ hst fun s2 hm => wpAny_pure (k s2 (hm.mono up) (hS.keep fun o => hm.heap a o nw)))
  | succ m ih =>
    intro i s e hst hS k
    have lt : i < n := by omega
    refine codeAny_builtin PyProof.Rows.F.entry_set_update_loop ?_
    rw [Around.under_plainId PyProof.Rows.F.plain_set_update_loop _]
    refine wpAny_bind (W.item i s _ _ lt hst fun v s2 hP hst2 hm => ?_)
    obtain ⟨z, t, hz, rfl⟩ := hv i v hP
    have hS1 := hS.keep fun o => hm.heap a o nw
    show wpAny _ A.in1 (holding [X.val z t] (setAdd a (X.val z t)) >>= _) _ _ s2
    refine wpAny_bind (wpAny_holding (by
      unfold setAdd
      refine wpAny_holding (wpAny_bind (X.kd.pyHash (X.is_ z t) ?_))
      refine setM_add (s := { s2 with toks := s2.toks + 1 }) hS1 (by omega) fun h2 b sb hS2 => ?_
      have hS3 : SetM X h2 a (memX xs (i + 1)) (i + 1) := hS2.congr fun y => by
        unfold memX
        rw [List.take_succ, hz, Bool.eq_iff_iff, Bool.or_eq_true, decide_eq_true_iff, decide_eq_true_iff, decide_eq_true_iff, List.mem_append]
        simp
      refine wpAny_pure ⟨plainId_quiet PyProof.Rows.F.plain_set_update_loop _, ih (i + 1) _ (by omega) ?_ hS3 fun s3 hm2 hS4 => k s3 (Moved.trans W.gtrans ((hm.mono up).then_heap (Nat.le_succ _) fun c o hc q => ?_) hm2) hS4⟩
      · exact W.frame _ s2 _ _ hst2 (Nat.le_succ _) fun c hc o q => (sb.2 c fun y => na (y ▸ hc)).trans q
      · exact (sb.2 c fun y => hc (y ▸ List.mem_cons_self)).trans q))
end
section
variable {P : Program} {w : World} {A : Around} {E : Value → Shared → Prop} {s : Shared} {κ : Type} [DecidableEq κ] {X : KX P w κ}
abbrev bareSet (w : World) : Obj := { cls := .type "set", dict := none, data := .set #[] 0 (.fresh 0 0 (!w.params.followText "set-order")) }
theorem bare_new (v : Value) {Q : Value → Shared → Prop} (h : Q (.ref s.heap.objs.size) { s with heap := s.heap.push (bareSet w) }) : codeAny (model P w) A (.call (.builtin "set.__new__") ⟨[.type "set", v], []⟩) (wants Q E) s := by
  refine codeAny_of_tree (show wpAny _ A.in1 (do checkBuiltinCall "set.__new__" ⟨[.type "set", v], []⟩; again (.builtin "set.__new__" ⟨[.type "set", v], []⟩)) _ _ s from ?_)
  refine wpAny_bind (wpAny_of_eq (PySem.F.newCall_set_1 v) (wpAny_pure ⟨plainId_quiet PySem.F.plain_set_new _, codeAny_builtin PySem.F.entry_set_new ?_⟩))
  rw [Around.under_plainId PySem.F.plain_set_new _]
  unfold Builtin.«set.__new__» Builtin.Frozenset.newClass
  have hself := sub_set_self
  obtain ⟨hp, gg, dr, tk, os⟩ := s
  dsimp only
  wp_walk
  refine wpAny_askSetting (wpAny_pure ?_)
  dsimp only
  simp only [newObj]
  exact wpAny_bind (wpAny_alloc (wpAny_pure (wpAny_pure h)))
theorem bare_is {h : Heap} : SetM X (h.push (bareSet w)) h.objs.size (fun _ => false) 0 :=
  ⟨_, #[], 0, _, Heap.get?_push_size _ rfl, ⟨rfl, rfl, rfl⟩, rfl, fun e he => by simp at he, by simp, fun k => by simp, by decide, by rfl, Nat.le_refl _, List.Pairwise.nil, by
    show _ ∨ (!w.params.followText "set-order") = true
    cases w.params.followText "set-order" <;> simp⟩
/-- what set(l) leaves behind -/
def LeftX (X : KX P w κ) (s : Shared) (xs : List κ) (h2 : Heap) : Prop := SetM X h2 s.heap.objs.size (fun k => decide (k ∈ xs)) xs.length ∧ ∀ b o, b < s.heap.objs.size → s.heap.get? b = some o → h2.get? b = some o
theorem call_setX {l : Addr} {items : Array Value} {xs : List κ} {Q : Value → Shared → Prop} (hh : A.handled = none) (hl : s.heap.IsList l items) (len : xs.length = items.size) (hi : ∀ (i : Nat) (v : Value), items[i]? = some v → ∃ k t, xs[i]? = some k ∧ v = X.val k t) (hb : xs.length + 1 < scanBound)
    (k : ∀ (h2 : Heap) (tk : Nat), LeftX X s xs h2 → Q (.ref s.heap.objs.size) { s with heap := h2, toks := tk }) : wpAny (model P w) A (call (.type "set") [.ref l]) Q E s := by
  obtain ⟨cT, tT, hmro⟩ := PySem.F.called_set.mro
  have y1 := PySem.F.called_set.made
  have y2 := PySem.F.called_set.sub
  have y3 := PySem.F.called_set.notType
  have y4 := PySem.F.called_set.canCreate
  have y5 := PySem.F.typeCall_set_1 (.ref l)
  refine wpAny_call (codeAny_of_tree (show wpAny _ _ (callAny (.type "set") _) _ _ _ from wpAny_pure ⟨Code.quiet_builtin _ (by decide +kernel), codeAny_builtin PySem.F.entry_type_call ?_⟩))
  rw [Around.under_plain (weight_type_call_type "set" [.ref l] []) rfl]
  repeat (any_goals (first | assumption | wp_step))
  refine codeAny_mono (bare_new (.ref l) (E := E) (Q := fun obj s1 => obj = .ref s.heap.objs.size ∧ s1 = { s with heap := s.heap.push (bareSet w) }) ⟨rfl, rfl⟩) fun r s1 hr => ?_
  match r, hr with
  | .error e, hr => exact hr
  | .ok (.ret obj), hr =>
    obtain ⟨rfl, rfl⟩ := hr
    have hS : (s.heap.push (bareSet w)).get? s.heap.objs.size = some (bareSet w) := Heap.get?_push_size _ rfl
    have hT : Shared.TypeIs { s with heap := s.heap.push (bareSet w) } (.ref s.heap.objs.size) "set" := ⟨_, hS, rfl⟩
    have i1 := PySem.F.called_set.init.lookup
    have i2 := PySem.F.called_set.init.bind (.ref s.heap.objs.size)
    repeat (any_goals (first | assumption | wp_step))
    refine codeAny_mono (codeAny_call_builtin (R := wants (fun r s2 => r = .none ∧ ∃ h2 tk, s2 = { s with heap := h2, toks := tk } ∧ LeftX X s xs h2) E) PySem.F.called_set.init.plain PySem.F.entry_set_init (check_set_init_1 hT ?_)) fun r2 s2 hr2 => ?_
    · obtain ⟨⟨oc, od, dt, osl⟩, ho, hc, nl, hd⟩ := hl
      dsimp only at hc hd
      subst hc hd
      have lt : l < s.heap.objs.size := Heap.lt_size ho
      have L1 : (s.heap.push (bareSet w)).IsList l items := ⟨_, Heap.get?_push_of_some _ ho, rfl, nl, rfl⟩
      have z1 := PySem.F.sub_list_set
      have z2 := PySem.F.sub_list_frozenset
      have z3 : (Value.type "list" == Value.type "dict") = false := by decide
      have ho1 : (s.heap.push (bareSet w)).get? l = some { cls := .type "list", dict := od, data := .seq items nl, slots := osl } := Heap.get?_push_of_some _ ho
      unfold Builtin.«set.__init__» noKeywords Builtin.Frozenset.updateFrom
      generalize hPI : pyIter = PI
      wp_walk
      subst hPI
      refine wpAny_pyIter_list L1 (wpAny_bind (wpAny_runValue ?_))
      have ne1 : l ≠ (s.heap.push (bareSet w)).objs.size := by
        rw [Heap.size_push]
        exact Nat.ne_of_lt (Nat.lt_succ_of_lt lt)
      have ne2 : s.heap.objs.size ∉ [(s.heap.push (bareSet w)).objs.size, l] := by
        rw [Heap.size_push]
        simp only [List.mem_cons, List.not_mem_nil, or_false, not_or]
        exact ⟨Nat.ne_of_lt (Nat.lt_succ_self _), Nat.ne_of_gt lt⟩
      refine loopX (X := X) ((Walks.list (by simp [hh]) _ l ne1 items).toS) ne2 len (by rw [← len]; exact hb) (fun i v e => hi i v e) items.size 0 _ (by omega) ⟨⟨_, Heap.get?_push_size _ rfl, rfl, rfl⟩, L1.push _⟩ ?_ ?_
      · exact SetM.congr (SetM.keep (bare_is (X := X) (h := s.heap)) fun o e => Heap.get?_push_of_some _ e) fun y => by unfold memX; simp
      · intro s2 hm hS2
        obtain ⟨h2, g2, d2, tk2, os2⟩ := s2
        obtain rfl : g2 = s.gens := hm.gens
        obtain rfl : d2 = s.drawn := hm.drawn
        obtain rfl : os2 = s.os := hm.os
        rw [← len] at hS2
        refine wpAny_pure (wpAny_pure ⟨rfl, h2, tk2, rfl, hS2.congr fun y => by unfold memX; rw [List.take_length], fun b o lb e => hm.heap b o ?_ (Heap.get?_push_of_some _ (Heap.get?_push_of_some _ e))⟩)
        simp only [List.mem_cons, List.not_mem_nil, or_false, not_or]
        rw [Heap.size_push]
        exact ⟨Nat.ne_of_lt lb, Nat.ne_of_lt (Nat.lt_succ_of_lt lb)⟩
    · match r2, hr2 with
      | .error e, hr2 => exact hr2
      | .ok (.ret r), hr2 =>
        obtain ⟨rfl, h2, tk, rfl, left⟩ := hr2
        repeat (any_goals (first | assumption | wp_step))
        exact k _ _ left
/-- sorted of such a set -/
theorem sorted_X {a : Addr} {M : κ → Bool} {m : Nat} {Q : Value → Shared → Prop} {Sd : List Value → List κ → Prop} (R : SetM X s.heap a M m) (hh : A.handled = none)
    (srt : ∀ (s2 : Shared) (l : Addr) (vs : List Value) (ks : List κ) (nn : Nat) (Z : Fin → Shared → Prop), s2.heap.get? l = some (seqObj "list" vs.toArray nn) → vs.length ≤ sizeLine → ks.length = vs.length → (∀ (i : Nat) (v : Value), vs[i]? = some v → ∃ k t, ks[i]? = some k ∧ v = X.val k t) →
      (∀ (out : Array Value) (ks2 : List κ), Sd out.toList ks2 → ks2.Perm ks → Z (.done (.ret .none)) { s2 with heap := sortedHeap s2.heap l vs out }) → wpAny (model P w) (A.in1.under (.builtin "list.sort" ⟨[.ref l], []⟩)) (Builtin.«list.sort» ⟨[.ref l], []⟩) Z E s2)
    (hQ : ∀ s2 p (out : Array Value) (c : Nat) (ks : List κ), (∀ b o, s.heap.get? b = some o → s2.heap.get? b = some o) → s2.gens = s.gens → s2.os = s.os → s.heap.objs.size ≤ p → s2.heap.get? p = some (seqObj "list" out c) → Sd out.toList ks → ks.Nodup →
      (∀ k, k ∈ ks ↔ M k = true) → ks.length ≤ m → Q (.ref p) s2) : wpAny (model P w) A (call (.builtin "sorted") [.ref a]) Q E s := by
  obtain ⟨o, es, ep, t, ho, hx, hd, g, dd, hm, hb, hf, hn, hr, hl⟩ := R
  refine Calls.call_function_entry kind_sorted plain_sorted entry_sorted (args_sorted1 _) ?_
  unfold Builtin.«sorted»
  refine wpAny_bind (m := checkCount "sorted" 1 1 _) (wpAny_pure ?_)
  refine wpAny_bind (collect_set (A := A.in1) hh ⟨o, ho, hx.1, hd⟩ hf hb hr hl fun s2 vs k2 z2 g2 o2 pm => ?_)
  have lv : vs.length = es.size := by rw [pm.length_eq, List.length_map, Array.length_toList]
  have lz : vs.length ≤ sizeLine := by
    rw [lv, sizeLine_eq]
    have : es.size < 4096 := hb
    omega
  have each : ∀ (i : Nat) (v : Value), vs[i]? = some v → ∃ k t, (vs.map X.key)[i]? = some k ∧ v = X.val k t := fun i v e => by
    obtain ⟨x, hx1, q⟩ := List.mem_map.mp (pm.mem_iff.mp (List.mem_of_getElem? e))
    obtain ⟨j, tj, q1, _⟩ := g x hx1
    refine ⟨j, tj, ?_, q.symm.trans q1⟩
    rw [List.getElem?_map, e, ← q, q1]
    show some (X.key (X.val j tj)) = some j
    rw [X.key_]
  have pk : (vs.map X.key).Perm (es.toList.map X.ky) := by
    have q := pm.map X.key
    rw [List.map_map] at q
    exact q
  refine wpAny_bind (wpAny_newList ?_ lz)
  have oL : (s2.heap.push (seqObj "list" vs.toArray 0)).get? s2.heap.objs.size = some (seqObj "list" vs.toArray 0) := Heap.get?_push_size _ rfl
  refine wpAny_bind (wpAny_holding (wpAny_call_entry slot_list_sort ⟨_, oL, rfl⟩ entry_list_sort (srt _ _ vs (vs.map X.key) 0 _ oL lz (by rw [List.length_map]) each fun out ks2 y1 y2 => ⟨_, rfl, ?_⟩) (args_list_sort _)))
  obtain ⟨c, hc⟩ := sortedHeap_at (vs := vs) (out := out) oL
  have pn := y2.trans pk
  refine wpAny_pure ⟨_, rfl, hQ _ s2.heap.objs.size out c ks2 (fun b u e => ?_) g2 o2 z2 hc y1 (pn.nodup_iff.mpr dd) (fun k => by rw [pn.mem_iff, ← hm k]) ?_⟩
  · have lt := Heap.lt_size (k2 b u e)
    show (sortedHeap (s2.heap.push (seqObj "list" vs.toArray 0)) s2.heap.objs.size vs out).get? b = some u
    rw [sortedHeap_old (Nat.ne_of_lt lt) (by rw [size_push']; exact Nat.lt_succ_of_lt lt)]
    exact Heap.get?_push_of_some _ (k2 b u e)
  · rw [pn.length_eq, List.length_map, Array.length_toList]
    exact hn
end
end G1

set_option maxHeartbeats 4000000
namespace G1
open PySem PySem.Spec PyProof.Rows L2
theorem strs_each {P : Program} {w : World} : ∀ {vs : List Value} {ks : List Str}, ks.length = vs.length → (∀ (i : Nat) (v : Value), vs[i]? = some v → ∃ k t, ks[i]? = some k ∧ v = (strX P w).val k t) → StrsAre vs ks
  | [], [], _, _ => .nil
  | v :: vs, k :: ks, l, h => by
    obtain ⟨j, t, e1, e2⟩ := h 0 v rfl
    have e3 : k = j := by simpa using e1
    subst e3
    rw [e2]
    exact .cons k t (strs_each (by simpa using l) fun i v e => by simpa using h (i + 1) v (by simpa using e))
  | [], _ :: _, l, _ => by simp at l
  | _ :: _, [], l, _ => by simp at l
theorem ints_each {P : Program} {w : World} : ∀ {vs : List Value} {ks : List Int}, ks.length = vs.length → (∀ (i : Nat) (v : Value), vs[i]? = some v → ∃ k t, ks[i]? = some k ∧ v = (intX P w).val k t) → IntsAre vs ks
  | [], [], _, _ => .nil
  | v :: vs, k :: ks, l, h => by
    obtain ⟨j, t, e1, e2⟩ := h 0 v rfl
    have e3 : k = j := by simpa using e1
    subst e3
    rw [e2]
    exact .cons k t (ints_each (by simpa using l) fun i v e => by simpa using h (i + 1) v (by simpa using e))
  | [], _ :: _, l, _ => by simp at l
  | _ :: _, [], l, _ => by simp at l
theorem rel_each_str {P : Program} {w : World} : ∀ {xs : List Str} {us : List Value}, Vals (xs.map V.str) us → ∀ (i : Nat) (v : Value), us[i]? = some v → ∃ k t, xs[i]? = some k ∧ v = (strX P w).val k t
  | [], _, .nil, i, v, e => by simp at e
  | x :: xs, u :: us, .cons r t, i, v, e => by
    match i, e with
    | 0, e =>
      obtain ⟨k, q⟩ := r
      cases e
      exact ⟨x, k, rfl, q⟩
    | i + 1, e => exact rel_each_str t i v (by simpa using e)
theorem rel_each_int {P : Program} {w : World} : ∀ {xs : List Int} {us : List Value}, Vals (xs.map V.int) us → ∀ (i : Nat) (v : Value), us[i]? = some v → ∃ k t, xs[i]? = some k ∧ v = (intX P w).val k t
  | [], _, .nil, i, v, e => by simp at e
  | x :: xs, u :: us, .cons r t, i, v, e => by
    match i, e with
    | 0, e =>
      obtain ⟨k, q⟩ := r
      cases e
      exact ⟨x, k, rfl, q⟩
    | i + 1, e => exact rel_each_int t i v (by simpa using e)
section
variable {X : Cx}
/-- sorted(set(xs)) of texts -/
def tSortS (K : PySem.W.Frag) (ta : TE) : TE := fun σ H Q => ta σ H fun x H1 => ∃ l, ∃ xs : List Str, x = .ref l ∧ SqL K H1 l (xs.map V.str) ∧ xs.length ≤ 1000 ∧
  ∀ (ys : List Str) (p : Addr), sortedS ys = true → ys.Nodup → (∀ z, z ∈ ys ↔ z ∈ xs) → ys.length ≤ xs.length → H1 p = none → Q (.ref p) (upd H1 p (.lst (ys.map V.str)))
/-- sorted(set(xs)) of ints -/
def tSortI (K : PySem.W.Frag) (ta : TE) : TE := fun σ H Q => ta σ H fun x H1 => ∃ l, ∃ xs : List Int, x = .ref l ∧ SqL K H1 l (xs.map V.int) ∧ xs.length ≤ 1000 ∧
  ∀ (ys : List Int) (p : Addr), ys.Pairwise (· ≤ ·) → ys.Nodup → (∀ z, z ∈ ys ↔ z ∈ xs) → ys.length ≤ xs.length → H1 p = none → Q (.ref p) (upd H1 p (.lst (ys.map V.int)))
theorem pe_sortS {a : Expr} {ta : TE} {p p2 q pos : Pos} (hc : X.calm = true) (g1 : Gl X "sorted") (m1 : X.mg "sorted" = none) (g2 : Gl X "set") (m2 : X.mg "set" = none) (ha : PE X a ta) (na : starEach [a] X.env = (false, eval a X.env) :: starEach [] X.env := by rfl) :
    PE X (.Call (.Name "sorted" p) [.Call (.Name "set" p2) [a] [] q] [] pos) (tSortS X.K ta) := by
  refine ⟨fun pins s σ H Q I h => Call_ (ld_blt I g1 m1 (show bootBuiltins "sorted" = some (.builtin "sorted") by decide +kernel) (callWith_builtin1 (args_cons (Call_ (ld_blt I g2 m2 boot_set ?_)) rfl) rfl rfl))⟩
  refine callWith_type1 (args_cons (thn (ha.run pins s σ H _ I h) fun v s1 ⟨x, H1, I1, r1, q1⟩ => args_nil ?_) na) na rfl
  obtain ⟨l, xs, rfl, hq, hb, q1⟩ := q1
  cases r1
  obtain ⟨its, r, pl, hz⟩ := I1.list hq
  have len : xs.length = its.toArray.size := by
    have := r.length
    rw [List.length_map] at this
    simpa using this
  refine call_setX (X := strX X.prog X.w) (I1.ok.hd hc) pl.isList (xs := xs) len (fun i v e => rel_each_str r i v (by simpa using e)) (by unfold scanBound; omega) fun h2 tk left => args_nil ?_
  obtain ⟨R, keep⟩ := left
  have I2 : Inv X pins σ H1 { s1 with heap := h2, toks := tk } := I1.kept fun b o e => keep b o (Heap.lt_size e) e
  refine sorted_X (s := { s1 with heap := h2, toks := tk }) (Sd := fun out ks => StrsAre out ks ∧ sortedS ks = true) R (I1.ok.hd hc) (fun s2 l2 vs ks nn Z ho hL hl he z => ?_) fun s2 p2 out c ks k2 g2 o2 hp hg hs hn hm hle => ?_
  · have hS : StrsAre vs ks := strs_each hl he
    refine list_sort_treeKAny strKind_oneLt ho hS.keysOf (fun v1 v2 rest e => keyKind_strs (by rw [← e]; exact hS)) hL fun st hp hs => ?_
    obtain ⟨ss, h1, h2, h3⟩ := sorted_out_str hS hp hs
    exact z _ ss ⟨h1, h3⟩ h2
  · have hn1 : H1 p2 = none := I2.hok.fresh hp
    have hlen : (ks.map V.str).length ≤ sizeLine := by rw [List.length_map, sizeLine_eq]; omega
    have J : Inv X pins σ (upd H1 p2 (.lst (ks.map V.str))) s2 :=
      I2.call' (ch := []) o2 (Un.laid k2 hp hn1) (I2.hok.laid k2 hp ⟨hlen, out.toList, c, vals_of_strs hs.1, by simpa using hg⟩) (by rw [g2]; exact I2.bare) (fun _ z => nomatch z)
    exact ⟨.ref p2, _, J, rfl, q1 ks p2 hs.2 hn (fun z => by rw [hm z, decide_eq_true_iff]) hle hn1⟩
theorem pe_sortI {a : Expr} {ta : TE} {p p2 q pos : Pos} (hc : X.calm = true) (g1 : Gl X "sorted") (m1 : X.mg "sorted" = none) (g2 : Gl X "set") (m2 : X.mg "set" = none) (ha : PE X a ta) (na : starEach [a] X.env = (false, eval a X.env) :: starEach [] X.env := by rfl) :
    PE X (.Call (.Name "sorted" p) [.Call (.Name "set" p2) [a] [] q] [] pos) (tSortI X.K ta) := by
  refine ⟨fun pins s σ H Q I h => Call_ (ld_blt I g1 m1 (show bootBuiltins "sorted" = some (.builtin "sorted") by decide +kernel) (callWith_builtin1 (args_cons (Call_ (ld_blt I g2 m2 boot_set ?_)) rfl) rfl rfl))⟩
  refine callWith_type1 (args_cons (thn (ha.run pins s σ H _ I h) fun v s1 ⟨x, H1, I1, r1, q1⟩ => args_nil ?_) na) na rfl
  obtain ⟨l, xs, rfl, hq, hb, q1⟩ := q1
  cases r1
  obtain ⟨its, r, pl, hz⟩ := I1.list hq
  have len : xs.length = its.toArray.size := by
    have := r.length
    rw [List.length_map] at this
    simpa using this
  refine call_setX (X := intX X.prog X.w) (I1.ok.hd hc) pl.isList (xs := xs) len (fun i v e => rel_each_int r i v (by simpa using e)) (by unfold scanBound; omega) fun h2 tk left => args_nil ?_
  obtain ⟨R, keep⟩ := left
  have I2 : Inv X pins σ H1 { s1 with heap := h2, toks := tk } := I1.kept fun b o e => keep b o (Heap.lt_size e) e
  refine sorted_X (s := { s1 with heap := h2, toks := tk }) (Sd := fun out ks => IntsAre out ks ∧ ks.Pairwise (· ≤ ·)) R (I1.ok.hd hc) (fun s2 l2 vs ks nn Z ho hL hl he z => ?_) fun s2 p2 out c ks k2 g2 o2 hp hg hs hn hm hle => ?_
  · exact list_sort_treeAny ho (ints_each hl he) hL fun out ns h1 h2 h3 => z out ns ⟨h1, h3⟩ h2
  · have hn1 : H1 p2 = none := I2.hok.fresh hp
    have hlen : (ks.map V.int).length ≤ sizeLine := by rw [List.length_map, sizeLine_eq]; omega
    have J : Inv X pins σ (upd H1 p2 (.lst (ks.map V.int))) s2 :=
      I2.call' (ch := []) o2 (Un.laid k2 hp hn1) (I2.hok.laid k2 hp ⟨hlen, out.toList, c, vals_of_ints hs.1, by simpa using hg⟩) (by rw [g2]; exact I2.bare) (fun _ z => nomatch z)
    exact ⟨.ref p2, _, J, rfl, q1 ks p2 hs.2 hn (fun z => by rw [hm z, decide_eq_true_iff]) hle hn1⟩
end
end G1

set_option maxHeartbeats 4000000
/-! list(d.values()), and dict(pairs) whose keys differ. -/
namespace G1
open PySem PySem.Spec PyProof.Rows L2
def tListVals (te : TE) : TE := fun σ H Q => te σ H fun x H1 => ∃ (d : Addr) (kvs : List (Key × V)), x = .ref d ∧ H1 d = some (.dK kvs) ∧ ∀ p, H1 p = none → Q (.ref p) (upd H1 p (.lst (kvs.map (·.2))))
theorem vals_snd : ∀ {kvs : List (Key × V)} {vs : List (Key × Value)}, KV kvs vs → Vals (kvs.map (·.2)) (vs.map (·.2))
  | _, _, .nil => .nil
  | _, _, .cons h t => .cons h.2 (vals_snd t)
section
variable {X : Cx} {e : Expr} {te : TE} {p apos cpos pos : Pos}
theorem pe_listVals (hc : X.calm = true) (he : PE X e te) (hg : Gl X "list") (hm : X.mg "list" = none) (hv : bootBuiltins "list" = some (.type "list")) (hbase : attributeBase e "values" X.env (eval e X.env) = eval e X.env := by rfl) (hline : (apos.endLine == cpos.line) = true := by rfl)
    (hs : starEach [.Call (.Attribute e "values" apos) [] [] cpos] X.env = (false, eval (.Call (.Attribute e "values" apos) [] [] cpos) X.env) :: starEach [] X.env := by rfl) :
    PE X (.Call (.Name "list" p) [.Call (.Attribute e "values" apos) [] [] cpos] [] pos) (tListVals te) := by
  refine ⟨fun pins s σ H Q I hq => ?_⟩
  refine wpAny_Call_Name_kw (ld_blt I hg hm hv ?_)
  refine PyProof.Rows.callWith_type1 ?_ hs rfl
  rw [hs]
  show wpAny _ _ (spliced ((false, eval (.Call (.Attribute e "values" apos) [] [] cpos) X.env) :: backTo pos (starEach [] X.env))) _ _ s
  refine Calls.spliced_cons ?_
  refine wpAny_Call_method (T := "dict") (id := "dict.values") hbase rfl hline F.plainAttrs_dict F.slot_dict_values F.type_dict_values (thn (he.run pins s σ H _ I hq) fun u s1 ⟨x, H1, I1, rx, d, kvs, ex, hd, q⟩ => ?_)
  subst ex
  obtain rfl : u = Value.ref d := rx
  obtain ⟨hz, hs0, vs, kv, hdo⟩ := I1.hok d _ hd
  obtain ⟨ep, hat⟩ := hdo.dictAt
  have lk : kvs.length = vs.length := Paired.length kv
  have I2 : Inv X pins σ H1 { s1 with heap := s1.heap.push { cls := .type "dict_values", data := .fields #[.ref d] } } := I1.kept (t' := s1.toks) fun b ob q => Heap.get?_push_of_some _ q
  refine ⟨hdo.typeIs, hdo.mapOf.noDict, ?_⟩
  show wpAny _ _ (callWith cpos (.builtin "dict.values") [.ref d] [] []) _ X.xe s1
  refine method_meetsIn F.slot_dict_values F.entry_dict_values rfl (PySem.evalArgs_none ⟨rfl, hdo.typeIs, F.args_dict_values_1 _, _, meets_dict_values (mixKind X.prog X.w) d hs0, ⟨vs, hdo⟩, ?_⟩)
  refine Calls.spliced_nil ?_
  refine PySem.W.kdl_call (PySem.W.kdl_values (knd := mixKind X.prog X.w) (kvs := vs) (ep := ep)) (I1.ok.hd hc) ⟨⟨_, Heap.get?_push_size _ rfl, rfl, rfl⟩, hat.push _⟩ (by omega) fun h' tk acc c hk hS hacc => ?_
  have ea : acc.toList = vs.map (·.2) := PySem.W.kdl_vals_eq acc.toList (by rw [Array.length_toList]; exact hacc.1) fun j v e => hacc.2 j v (by rw [← Array.getElem?_toList]; exact e)
  refine ⟨.ref _, upd H1 _ (.lst (kvs.map (·.2))), I2.laid (t' := tk) hk (Nat.le_refl _) (show ObjOk X.prog X.w _ _ _ (.lst (kvs.map (·.2))) from ⟨by rw [List.length_map]; omega, vs.map (·.2), c, vals_snd kv, ?_⟩), rfl, q _ (I2.hok.fresh (Nat.le_refl _))⟩
  rw [← ea, Array.toArray_toList]
  exact hS
end
theorem mergeK_new : ∀ {more acc : List (Key × V)}, ((acc ++ more).map (·.1)).Nodup → mergeK acc more = acc ++ more
  | [], acc, _ => by rw [List.append_nil]; rfl
  | p :: more, acc, h => by
    have e1 : valV acc p.1 = none := by
      cases e : valV acc p.1 with
      | none => rfl
      | some v =>
        have m := valV_in e
        rw [List.map_append, List.map_cons] at h
        exact absurd rfl ((List.nodup_append.mp h).2.2 p.1 m p.1 List.mem_cons_self)
    show mergeK (putK acc p.1 p.2) more = acc ++ p :: more
    rw [putK_new _ e1]
    have e2 : acc ++ [(p.1, p.2)] ++ more = acc ++ p :: more := by rw [List.append_assoc]; rfl
    rw [← e2]
    exact mergeK_new (by rw [e2]; exact h)
/-! ### a dict that leads texts to texts -/
def kvP (ks vs : List Str) : List (Key × V) := (ks.zip vs).map fun p => ((.inr p.1 : Key), V.str p.2)
def ren : List Str → List Str → Str → Str
  | k :: ks, v :: vs, z => if k = z then v else ren ks vs z
  | _, _, z => z
theorem kvP_len {ks vs : List Str} (h : ks.length = vs.length) : (kvP ks vs).length = ks.length := by
  unfold kvP
  rw [List.length_map, List.length_zip]
  omega
theorem kvP_keys : ∀ {ks vs : List Str}, ks.length = vs.length → (kvP ks vs).map (·.1) = ks.map fun k => (.inr k : Key)
  | [], _, _ => rfl
  | _ :: _, [], h => by simp at h
  | k :: ks, v :: vs, h => by
    show (.inr k : Key) :: (kvP ks vs).map (·.1) = _
    rw [kvP_keys (by simpa using h)]
    rfl
theorem kvP_vals : ∀ {ks vs : List Str}, ks.length = vs.length → (kvP ks vs).map (·.2) = vs.map V.str
  | [], [], _ => rfl
  | [], _ :: _, h => by simp at h
  | _ :: _, [], h => by simp at h
  | k :: ks, v :: vs, h => by
    show V.str v :: (kvP ks vs).map (·.2) = _
    rw [kvP_vals (by simpa using h)]
    rfl
theorem nd_inr {ks : List Str} (n : ks.Nodup) : (ks.map fun k => (.inr k : Key)).Nodup := by
  refine List.pairwise_map.mpr (n.imp fun {a b} ne e => ne ?_)
  injection e
theorem kvP_merge {ks vs : List Str} (n : ks.Nodup) (h : ks.length = vs.length) : mergeK [] (kvP ks vs) = kvP ks vs := by
  have q := mergeK_new (more := kvP ks vs) (acc := []) (by rw [List.nil_append, kvP_keys h]; exact nd_inr n)
  rw [q, List.nil_append]
theorem valV_ren : ∀ {ks vs : List Str} {z : Str}, ks.length = vs.length → z ∈ ks → valV (kvP ks vs) (.inr z) = some (V.str (ren ks vs z))
  | [], _, z, _, m => nomatch m
  | _ :: _, [], _, h, _ => by simp at h
  | k :: ks, v :: vs, z, h, m => by
    show valV (((.inr k : Key), V.str v) :: kvP ks vs) (.inr z) = _
    by_cases e : k = z
    · rw [valV_pos (by rw [e])]
      unfold ren
      rw [if_pos e]
    · rw [valV_neg (fun q => e (by injection q))]
      have m2 : z ∈ ks := by
        rcases List.mem_cons.mp m with q | q
        · exact absurd q.symm e
        · exact q
      rw [valV_ren (by simpa using h) m2]
      show _ = some (V.str (if k = z then v else ren ks vs z))
      rw [if_neg e]
theorem ren_mem : ∀ {ks vs : List Str} {z : Str}, ks.length = vs.length → z ∈ ks → ren ks vs z ∈ vs
  | [], _, z, _, m => nomatch m
  | _ :: _, [], _, h, _ => by simp at h
  | k :: ks, v :: vs, z, h, m => by
    show (if k = z then v else ren ks vs z) ∈ v :: vs
    by_cases e : k = z
    · rw [if_pos e]
      exact List.mem_cons_self
    · rw [if_neg e]
      rcases List.mem_cons.mp m with q | q
      · exact absurd q.symm e
      · exact List.mem_cons_of_mem _ (ren_mem (by simpa using h) q)
theorem ren_map : ∀ {ks vs : List Str}, ks.length = vs.length → ks.Nodup → ks.map (ren ks vs) = vs
  | [], [], _, _ => rfl
  | [], _ :: _, h, _ => by simp at h
  | _ :: _, [], h, _ => by simp at h
  | k :: ks, v :: vs, h, n => by
    obtain ⟨n1, n2⟩ := List.nodup_cons.mp n
    show ren (k :: ks) (v :: vs) k :: ks.map (ren (k :: ks) (v :: vs)) = v :: vs
    congr 1
    · show (if k = k then v else ren ks vs k) = v
      rw [if_pos rfl]
    · rw [← ren_map (ks := ks) (vs := vs) (by simpa using h) n2]
      have e : ∀ ws, ws = vs → ks.map (ren (k :: ks) (v :: ws)) = ks.map (ren ks ws) := fun ws _ => List.map_congr_left fun z hz => by
        show (if k = z then v else ren ks ws z) = _
        rw [if_neg (fun q => n1 (by rw [q]; exact hz))]
      rw [ren_map (ks := ks) (vs := vs) (by simpa using h) n2]
      exact (e vs rfl).trans (ren_map (by simpa using h) n2)
theorem ren_ren : ∀ {ks vs : List Str} {z : Str}, ks.length = vs.length → vs.Nodup → z ∈ ks → ren vs ks (ren ks vs z) = z
  | [], _, z, _, _, m => nomatch m
  | _ :: _, [], _, h, _, _ => by simp at h
  | k :: ks, v :: vs, z, h, n, m => by
    obtain ⟨n1, n2⟩ := List.nodup_cons.mp n
    show (if v = (if k = z then v else ren ks vs z) then k else ren vs ks (if k = z then v else ren ks vs z)) = z
    by_cases e : k = z
    · rw [if_pos e, if_pos rfl, e]
    · have m2 : z ∈ ks := by
        rcases List.mem_cons.mp m with q | q
        · exact absurd q.symm e
        · exact q
      rw [if_neg e, if_neg (fun q => n1 (by rw [q]; exact ren_mem (by simpa using h) m2))]
      exact ren_ren (by simpa using h) n2 m2
theorem ren_inj {ks vs : List Str} (h : ks.length = vs.length) (n : vs.Nodup) {y z : Str} (hy : y ∈ ks) (hz : z ∈ ks) (e : ren ks vs y = ren ks vs z) : y = z := by
  rw [← ren_ren h n hy, e, ren_ren h n hz]
theorem ren_perm {ks vs r : List Str} (h : ks.length = vs.length) (n : ks.Nodup) (p : r.Perm ks) : (r.map (ren ks vs)).Perm vs := by
  have q := p.map (ren ks vs)
  rwa [ren_map h n] at q
end G1

set_option maxHeartbeats 4000000
/-! Dicts by names: {x: f x for x in xs}, and the comprehensions over lists and enumerate that make them. -/
namespace G1
open PySem PySem.Spec PyProof.Rows L2
def dN (xs : List Str) (f : Str → V) : List (Key × V) := xs.map fun x => ((.inr x : Key), f x)
theorem dN_len {xs : List Str} {f : Str → V} : (dN xs f).length = xs.length := List.length_map _
theorem dN_val : ∀ {xs : List Str} {f : Str → V} {x : Str}, x ∈ xs → valV (dN xs f) (.inr x) = some (f x)
  | y :: ys, f, x, h => by
    show valV (((.inr y : Key), f y) :: dN ys f) (.inr x) = _
    by_cases e : y = x
    · rw [valV_pos (by rw [e]), e]
    · rw [valV_neg (fun q => e (by injection q))]
      refine dN_val ?_
      rcases List.mem_cons.mp h with q | q
      · exact absurd q.symm e
      · exact q
theorem dN_none : ∀ {xs : List Str} {f : Str → V} {x : Str}, x ∉ xs → valV (dN xs f) (.inr x) = none
  | [], _, _, _ => rfl
  | y :: ys, f, x, h => by
    show valV (((.inr y : Key), f y) :: dN ys f) (.inr x) = _
    rw [valV_neg (fun q => h (by injection q with q; exact q ▸ List.mem_cons_self))]
    exact dN_none fun q => h (List.mem_cons_of_mem _ q)
theorem dN_put {xs : List Str} {f : Str → V} {x : Str} (h : x ∉ xs) : putK (dN xs f) (.inr x) (f x) = dN (xs ++ [x]) f := by
  rw [putK_new _ (dN_none h)]
  unfold dN
  rw [List.map_append]
  rfl
theorem dN_get {H : Hp} {d : Addr} {xs : List Str} {f : Str → V} {x : Str} (e : H d = some (.dK (dN xs f))) (h : x ∈ xs) : DGet H d (.str x) (some (f x)) := by
  have q := DGet.k (k := .inr x) e
  rwa [dN_val h] at q
/-- {.. for name in xs}, each turn one new name -/
theorem dc_names {K : PySem.W.Frag} {a : Addr} {xs : List Str} {f : Str → V} {n : Nat} {tk tv : TE} {vs : List Nat} {σ : L2.St} {H1 : Hp} {D : Addr} {Qd : Hp → Prop} (ha : H1 a = some (.lst (xs.map V.str))) (hn : xs.Nodup) (le : xs.length ≤ 100) (hD : H1 D = none)
    (hw : ∀ v, wipe ((wipe σ vs).set n (some v)) vs = wipe σ vs)
    (hs : ∀ (x : Str) (H : Hp) (Qk : VK), x ∈ xs → Same H1 H → (∀ H', Same H H' → Qk (.str x) H') → tk ((wipe σ vs).set n (some (.str x))) H Qk)
    (hv : ∀ (x : Str) (H : Hp) (Qk : VK), x ∈ xs → Same H1 H → (∀ H', Same H H' → Qk (f x) H') → tv ((wipe σ vs).set n (some (.str x))) H Qk)
    (hd : ∀ H, H D = some (.dK (dN xs f)) → Same H1 H → Qd H) : ∃ W : Nat → Nat → Hp → Prop, (∃ m, W 0 m (upd H1 D (.dK []))) ∧ ∀ i m H, W i m H → ((Itl K a).stop i H ∧ Qd H) ∨ ((Itl K a).go i H ∧ ∃ Nx : Hp → Prop, (∀ H', Nx H' → ∃ m', m' < m ∧ W (i + 1) m' H') ∧ ∀ x H', (Itl K a).yld i H x H' → gName n x (wipe σ vs) H' fun σ2 H2 => wipe σ2 vs = wipe σ vs ∧ tYes σ2 H2 fun b H3 => if b = true then tk σ2 H3 fun y H4 => tv σ2 H4 fun z H5 => ∃ kvs k, y = kV k ∧ H5 D = some (.dK kvs) ∧ kvs.length < sizeLine ∧ Nx (upd H5 D (.dK (putK kvs k z))) else Nx H3) := by
  have I : ∀ {H : Hp}, Same H1 H → SqL K H a (xs.map V.str) := fun s => SqL.of (s _ _ ha)
  refine ⟨fun i m H => m = xs.length - i ∧ i ≤ xs.length ∧ H D = some (.dK (dN (xs.take i) f)) ∧ Same H1 H, ⟨xs.length, rfl, Nat.zero_le _, upd_same, fun b o e => by rw [upd_ne (ne_of_none e hD)]; exact e⟩, ?_⟩
  rintro i m H ⟨rfl, hi, hH, s⟩
  by_cases lt : i < xs.length
  · have ex : xs[i]? = some xs[i] := List.getElem?_eq_getElem lt
    have em : (xs.map V.str)[i]? = some (.str xs[i]) := by rw [List.getElem?_map, ex]; rfl
    have mem := List.mem_of_getElem? ex
    refine .inr ⟨⟨_, _, I s, em⟩, fun H' => H' D = some (.dK (dN (xs.take (i + 1)) f)) ∧ Same H1 H', fun H' p => ⟨xs.length - (i + 1), by omega, rfl, lt, p.1, p.2⟩, fun x H' y => ?_⟩
    obtain ⟨rfl, y⟩ := y
    have ey := y _ (I s)
    rw [em] at ey
    obtain rfl := Option.some.inj ey
    refine ⟨hw _, hs _ H' _ mem s fun H4 s4 => hv _ H4 _ mem (s.trans s4) fun H5 s5 => ?_⟩
    have nx : xs[i] ∉ xs.take i := fun q => by
      obtain ⟨j, hj, e⟩ := List.mem_iff_getElem.mp q
      rw [List.length_take] at hj
      rw [List.getElem_take] at e
      exact List.pairwise_iff_getElem.mp hn j i (by omega) lt (by omega) e
    refine ⟨_, .inr xs[i], rfl, (s4.trans s5) _ _ hH, small1000 (by rw [dN_len, List.length_take]; omega), ?_, fun b o e => ?_⟩
    · rw [upd_same, dN_put nx, List.take_succ, ex]
      rfl
    · rw [upd_ne (ne_of_none e hD)]
      exact (s4.trans s5) _ _ (s _ _ e)
  · have e : i = xs.length := by omega
    subst e
    rw [List.take_length] at hH
    exact .inl ⟨⟨_, I s, by rw [List.length_map]; exact Nat.le_refl _⟩, hd H hH s⟩
end G1

set_option maxHeartbeats 4000000
namespace G14
open PySem PySem.Spec PyProof.Rows L2 G1
def top (i : Nat) : Stmt := PySem.Challenge.pw_cardpanel_k14_alike_refused_and_by_name.main.body.getD i (.Pass ⟨0, 0, 0, 0⟩)
abbrev FnP (K : PySem.W.Frag) (x : Str) (st : Stmt) (f : Addr) (fd : FuncData) : Prop := FunD K x x (defArgs st) (defBody st) (defScope st) [] [] f fd
theorem okN {P : Program} {w : World} {K : PySem.W.Frag} {mg : Str → Option Value} {base : Heap} {x qual : Str} {params : Arguments} {body : List Stmt} {scope : Scope} {dvs : List V} {kws : List (Str × V)} {f : Addr} {fd : FuncData}
    {N ps : List Str} {k : Nat} {sp : Sp} (F : FunD K x qual params body scope dvs kws f fd) (S : FnScope N ps scope) (len : ∀ vs H Q E, sp vs H Q E → vs.length = ps.length)
    (hb : ∀ (cdv : Value) (A : Around) (outer : List Env) (s : Shared) (H : Hp) (vs : List V) (Q : VK) (E : XK), Room k (A.deeper (envOfC qual scope s.heap.objs.size f cdv)) → sp vs H Q E →
      ∃ t, PSs (cxOf CX0 P w K mg base N qual scope f cdv A outer s H E).nox body t ∧ t { nx := fun _ H' => Q .non H', rt := Q } (start N vs) H) : FnOk P w K mg base CX0 (k + 1) f fd ps sp :=
  F.ok S len fun cdv A outer s H vs Q E hr h => by
    obtain ⟨t, h1, h2⟩ := hb cdv A outer s H vs Q E hr h
    exact ⟨t, h1.nox, h2⟩
theorem gdN {P : Program} {w : World} {K : PySem.W.Frag} {mg : Str → Option Value} {base : Heap} {x qual : Str} {params : Arguments} {body : List Stmt} {scope : Scope} {dvs : List V} {kws : List (Str × V)} {f : Addr} {fd : FuncData}
    {N ps : List Str} {k : Nat} {sp : Sp} (F : FunD K x qual params body scope dvs kws f fd) (S : FnScope N ps scope) (len : ∀ vs H Q E, sp vs H Q E → vs.length = ps.length)
    (hb : ∀ (cdv : Value) (A : Around) (outer : List Env) (s : Shared) (H : Hp) (vs : List V) (Q : VK) (E : XK), Gd A → Room k (A.deeper (envOfC qual scope s.heap.objs.size f cdv)) → sp vs H Q E →
      ∃ t, PSs (cxOf CX0 P w K mg base N qual scope f cdv A outer s H E).nox body t ∧ t { nx := fun _ H' => Q .non H', rt := Q } (start N vs) H) : FnG P w K mg base (k + 1) f fd ps sp := by
  obtain ⟨oc, od, dV, kV, doc, pm, an, cdv, ct, osl, rfl, lk, hcd, _, _⟩ := F.ex
  refine FnG.body lk hcd S len fun A outer s H vs Q E hg hr h => ?_
  obtain ⟨t, h1, h2⟩ := hb cdv A outer s H vs Q E hg hr h
  exact ⟨t, h1.nox, h2⟩
/-! ### purses -/
def PurseL (xs : List V) (c : Nat) : Prop := ∃ v s t a : Int, xs = [.int v, .int s, .int t, .int a] ∧ 0 ≤ s ∧ s < 2147483648 ∧ 0 ≤ t ∧ t ≤ c ∧ 0 ≤ a ∧ a ≤ 1000
def Purse (H : Hp) (p : Addr) (c : Nat) : Prop := ∃ xs, H p = some (.lst xs) ∧ PurseL xs c
def But (p : Addr) (H H' : Hp) : Prop := ∀ b o, b ≠ p → H b = some o → H' b = some o
theorem PurseL.mono {xs : List V} {c d : Nat} (h : PurseL xs c) (l : c ≤ d) : PurseL xs d := by
  obtain ⟨v, s, t, a, e, h1, h2, h3, h4, h5⟩ := h
  exact ⟨v, s, t, a, e, h1, h2, h3, by omega, h5⟩
theorem Purse.mono {H : Hp} {p : Addr} {c d : Nat} (h : Purse H p c) (l : c ≤ d) : Purse H p d := by
  obtain ⟨xs, e, q⟩ := h
  exact ⟨xs, e, q.mono l⟩
theorem But.refl (p : Addr) (H : Hp) : But p H H := fun _ _ _ e => e
theorem But.trans {p : Addr} {H H1 H2 : Hp} (a : But p H H1) (b : But p H1 H2) : But p H H2 := fun c o n e => b c o n (a c o n e)
theorem But.upd {p : Addr} {H : Hp} {o : HO} : But p H (upd H p o) := fun b u n e => by
  rw [upd_ne n]
  exact e
theorem But.same {p : Addr} {H H' : Hp} (s : Same H H') : But p H H' := fun b o _ e => s b o e
theorem Purse.but {H H' : Hp} {p q : Addr} {c : Nat} (h : Purse H q c) (b : But p H H') (n : q ≠ p) : Purse H' q c := by
  obtain ⟨xs, e, z⟩ := h
  exact ⟨xs, b _ _ n e, z⟩
theorem Purse.same {H H' : Hp} {p : Addr} {c : Nat} (h : Purse H p c) (s : Same H H') : Purse H' p c := by
  obtain ⟨xs, e, z⟩ := h
  exact ⟨xs, s _ _ e, z⟩
/-! ### promises -/
def spMixed : Sp := fun vs H Q _ => ∃ s t a : Int, vs = [.int s, .int t, .int a] ∧ 0 ≤ s ∧ s < 2147483648 ∧ 0 ≤ t ∧ t < 2 ^ 40 ∧ 0 ≤ a ∧ a ≤ 1000 ∧ ∀ r : Int, Q (.int r) H
def spDraw : Sp := fun vs H Q _ => ∃ (p : Addr) (m : Int) (c : Nat), vs = [.ref p, .int m] ∧ 0 < m ∧ m < 1073741824 ∧ Purse H p c ∧ c ≤ 1000000 ∧
  ∀ (r : Int) (H' : Hp), 0 ≤ r → r < m → Purse H' p (c + 3) → But p H H' → Q (.int r) H'
section
variable {P : Program} {w : World} {K : PySem.W.Frag} {mg : Str → Option Value} {base : Heap}
abbrev sMixed : Stmt := top 64
theorem scMixed : FnScope ["_law_seed", "_law_turn", "_law_at", "_law_mixed_here"] ["_law_seed", "_law_turn", "_law_at"] (defScope sMixed) := ⟨rfl, rfl, rfl, by decide +kernel, rfl, by decide +kernel, by decide +kernel⟩
theorem ok_mixed {f : Addr} {fd : FuncData} (F : FnP K "_law_mixed" sMixed f fd) : FnOk P w K mg base CX0 1 f fd ["_law_seed", "_law_turn", "_law_at"] spMixed := by
  refine okN F scMixed (fun vs H Q E h => ?_) (fun cdv A outer s H vs Q E hr h => ?_)
  · obtain ⟨_, _, _, rfl, _⟩ := h
    rfl
  · obtain ⟨sd, t, a, rfl, h1, h2, h3, h4, h5, h6, k⟩ := h
    refine ⟨_, pss_cons (ps_set (i := 3) scMixed.nd rfl (Or.inl rfl) (pe_op op_add (pe_op op_mul (pv 0) pe_int) (pe_op op_mul (pe_op op_mul pe_int (pv 1)) (pv 1))))
      (pss_cons (ps_set (i := 3) scMixed.nd rfl (Or.inl rfl) (pe_op op_mod (pe_op op_add (pe_op op_add (pv 3) (pe_op op_mul pe_int (pv 2))) (pv 1)) pe_int))
      (pss_cons (ps_set (i := 3) scMixed.nd rfl (Or.inl rfl) (pe_op op_mod (pe_op op_add (pe_op op_mul (pv 3) (pv 3)) pe_int) pe_int))
      (pss_one (ps_ret (pe_op op_mod (pe_op op_mul (pv 3) pe_int) pe_int))))), ?_⟩
    refine ⟨_, rfl, _, _, rfl, rfl, .inl ⟨by omega, by omega⟩, _, rfl, _, _, rfl, rfl, .inl ⟨by decide, by decide⟩, _, rfl, _, _, rfl, rfl, .inr ⟨by omega, by omega⟩, _, _, rfl, rfl, ?_⟩
    refine ⟨_, rfl, _, rfl, _, _, rfl, rfl, .inl ⟨by decide, by decide⟩, _, _, rfl, rfl, _, rfl, _, _, rfl, rfl, _, _, rfl, rfl, (by show (0 : Int) < 2147483647; decide), ?_⟩
    generalize hm : (sd * 69069 + 104729 * t * t + 7919 * a + t) % 2147483647 = m
    have m0 : 0 ≤ m := by rw [← hm]; exact Int.emod_nonneg _ (by decide)
    have m1 : m < 2147483647 := by rw [← hm]; exact Int.emod_lt_of_pos _ (by decide)
    refine ⟨_, rfl, _, rfl, _, _, rfl, rfl, .inl ⟨by omega, by omega⟩, _, _, rfl, rfl, _, _, rfl, rfl, (by show (0 : Int) < 2147483629; decide), ?_⟩
    refine ⟨_, rfl, _, _, rfl, rfl, .inr ⟨by decide, by decide⟩, _, _, rfl, rfl, (by show (0 : Int) < 2147483587; decide), ?_⟩
    exact k _
end
end G14

set_option maxHeartbeats 8000000
namespace G14
open PySem PySem.Spec PyProof.Rows L2 G1
structure Lib (K : PySem.W.Frag) (mg : Str → Option Value) : Prop where
  sum : mg "sum" = none
  max : mg "max" = none
  min : mg "min" = none
  len : mg "len" = none
  range : mg "range" = none
section
variable {P : Program} {w : World} {K : PySem.W.Frag} {mg : Str → Option Value} {base : Heap}
abbrev sDraw : Stmt := top 65
theorem scDraw : FnScope ["_law_purse_here", "_law_many", "_law_drawn", "_law_found", "_law_piece"] ["_law_purse_here", "_law_many"] (defScope sDraw) := ⟨rfl, rfl, rfl, by decide +kernel, rfl, by decide +kernel, by decide +kernel⟩
theorem ok_draw {f fM : Addr} {fd fdM : FuncData} (F : FnP K "_law_draw" sDraw f fd) (L : Lib K mg) (FM : FnP K "_law_mixed" sMixed fM fdM) (gM : mg "_law_mixed" = some (.ref fM)) :
    FnOk P w K mg base CX0 2 f fd ["_law_purse_here", "_law_many"] spDraw := by
  have GM : FnOk P w K mg base CX0 1 fM fdM ["_law_seed", "_law_turn", "_law_at"] spMixed := ok_mixed FM
  have bM : Binds K fdM ["_law_seed", "_law_turn", "_law_at"] [] := FM.bindsN fun _ _ _ _ _ _ us hl => match us, hl with | [_, _, _], _ => rfl
  refine okN F scDraw (fun vs H Q E h => ?_) (fun cdv A outer s H vs Q E hr h => ?_)
  · obtain ⟨_, _, _, rfl, _⟩ := h
    rfl
  · obtain ⟨p, m, c, rfl, m0, m1, ⟨xs, hp, v, sd, t, a, rfl, h1, h2, h3, h4, h5, h6⟩, hc, k⟩ := h
    refine ⟨_, pss_cons (ps_if (pt_cmpR op_gt (pe_ix ix_list (pv 0) pe_int (fun _ _ => rfl)) pe_int (nomark _))
        (pss_cons (ps_set (i := 2) scDraw.nd rfl (Or.inl rfl) (pe_op op_mod (pe_ix ix_list (pv 0) pe_int (fun _ _ => rfl)) (pv 1)))
        (pss_cons (ps_asg (pe_op op_fdiv (pe_ix ix_list (pv 0) pe_int (fun _ _ => rfl)) (pv 1)) (pg_sub (pv 0) pe_int set_list))
        (pss_one (ps_ret (pv 2))))) pss_nil)
      (pss_cons (ps_set (i := 3) scDraw.nd rfl (Or.inl rfl) pe_int)
      (pss_cons (ps_for PassesOwn.never rfl (pi_range1 rfl L.range (pa_cons (pe_op op_add pe_int (pe_op op_fdiv (pe_bits (pv 1)) pe_int)) pa_nil)) (pg_name (i := 4) scDraw.nd rfl (Or.inl rfl))
        (pss_cons (ps_asg (pe_op op_add (pe_ix ix_list (pv 0) pe_int (fun _ _ => rfl)) pe_int) (pg_sub (pv 0) pe_int set_list))
        (pss_one (ps_set (i := 3) scDraw.nd rfl (Or.inl rfl) (pe_op op_add (pe_op op_mul (pv 3) pe_int)
          (pe_call GM hr rfl gM FM.kp bM .nil pass0 (pa_cons (pe_ix ix_list (pv 0) pe_int (fun _ _ => rfl)) (pa_cons (pe_ix ix_list (pv 0) pe_int (fun _ _ => rfl)) (pa_cons (pe_ix ix_list (pv 0) pe_int (fun _ _ => rfl)) pa_nil)))))))))
      (pss_one (ps_ret (pe_op op_mod (pv 3) (pv 1)))))), ?_⟩
    have at0 : ∀ {x y z u : V}, atI [x, y, z, u] 0 = some x := rfl
    have at1 : ∀ {x y z u : V}, atI [x, y, z, u] 1 = some y := rfl
    have at2 : ∀ {x y z u : V}, atI [x, y, z, u] 2 = some z := rfl
    have at3 : ∀ {x y z u : V}, atI [x, y, z, u] 3 = some u := rfl
    refine ⟨_, rfl, p, _, _, _, rfl, rfl, SqL.of hp, at0, _, _, rfl, rfl, _, rfl, ?_⟩
    refine ite2 (fun _ => ?_) (fun _ => ?_)
    · refine ⟨_, rfl, p, _, _, _, rfl, rfl, SqL.of hp, at0, _, rfl, _, _, rfl, rfl, m0, ?_⟩
      refine ⟨_, rfl, p, _, _, _, rfl, rfl, SqL.of hp, at0, _, rfl, _, _, rfl, rfl, ⟨m0, m1⟩, ?_⟩
      refine ⟨_, rfl, p, _, _, 0, rfl, rfl, hp, rfl, ?_⟩
      refine ⟨_, rfl, ?_⟩
      exact k _ _ (Int.emod_nonneg _ (by omega)) (Int.emod_lt_of_pos _ m0) ⟨_, upd_same, v / m, sd, t, a, rfl, h1, h2, h3, by omega, h5, h6⟩ But.upd
    · have hb : Builtin.Int.intBits m ≤ 64 := intBits_le_64 (by omega) (by omega)
      have e28 : ((Builtin.Int.intBits m : Nat) : Int) / 28 ≤ 2 := by omega
      have n28 : 0 ≤ ((Builtin.Int.intBits m : Nat) : Int) / 28 := by omega
      refine ⟨_, rfl, m, rfl, _, _, rfl, rfl, ⟨by decide, by decide⟩, _, _, rfl, rfl, _, rfl, by omega, by omega, ?_⟩
      generalize hn : (1 + ((Builtin.Int.intBits m : Nat) : Int) / 28).toNat = n
      have n3 : n ≤ 3 := by omega
      refine for_range (lo := 0) (n := n) (fun i σ H' => ∃ (r : Int) (o : Option V), σ = [some (.ref p), some (.int m), none, some (.int r), o] ∧ But p H H' ∧ ∃ t' : Int, H' p = some (.lst [.int v, .int sd, .int t', .int a]) ∧ 0 ≤ t' ∧ t' ≤ (c : Int) + i)
        ⟨0, none, rfl, But.refl _ _, t, hp, h3, by omega⟩ ?_ ?_
      · rintro i σ H' hi ⟨r, o, rfl, hb', t', hp', u1, u2⟩
        refine ⟨_, rfl, p, _, _, _, rfl, rfl, SqL.of hp', at2, _, _, rfl, rfl, _, rfl, p, _, _, 2, rfl, rfl, hp', rfl, ?_⟩
        have hp2 : upd H' p (.lst [.int v, .int sd, .int (t' + 1), .int a]) p = some (.lst [.int v, .int sd, .int (t' + 1), .int a]) := upd_same
        refine ⟨_, rfl, _, _, rfl, rfl, .inr ⟨by decide, by decide⟩, _, rfl, p, _, _, _, rfl, rfl, SqL.of hp2, at1, _, rfl, p, _, _, _, rfl, rfl, SqL.of hp2, at2, _, rfl, p, _, _, _, rfl, rfl, SqL.of hp2, at3, ?_⟩
        refine ⟨sd, t' + 1, a, rfl, h1, h2, by omega, by omega, h5, h6, fun q => ?_⟩
        refine ⟨_, _, rfl, rfl, ?_⟩
        exact ⟨_, _, rfl, hb'.trans But.upd, t' + 1, hp2, by omega, by omega⟩
      · rintro σ H' ⟨r, o, rfl, hb', t', hp', u1, u2⟩
        refine ⟨_, rfl, _, rfl, _, _, rfl, rfl, m0, ?_⟩
        exact k _ _ (Int.emod_nonneg _ (by omega)) (Int.emod_lt_of_pos _ m0) ⟨_, hp', v, sd, t', a, rfl, h1, h2, u1, by omega, h5, h6⟩ hb'
end
end G14

set_option maxHeartbeats 8000000
namespace G14
open PySem PySem.Spec PyProof.Rows L2 G1
def spPurse (K : PySem.W.Frag) : Sp := fun vs H Q _ => ∃ (a : Addr) (i : Int) (ns : List Int), vs = [.ref a, .int i] ∧ SqL K H a (ns.map V.int) ∧ 0 ≤ i ∧ i ≤ 1000 ∧
  ∀ (p : Addr) (H' : Hp), H p = none → Purse H' p 0 → Same H H' → Q (.ref p) H'
theorem cut_ints (ns : List Int) (lo hi : Option Int) : ∃ zs : List Int, cutV (ns.map V.int) lo hi = zs.map V.int := by
  unfold cutV
  rw [← List.map_drop, ← List.map_take]
  exact ⟨_, rfl⟩
section
variable {P : Program} {w : World} {K : PySem.W.Frag} {mg : Str → Option Value} {base : Heap}
abbrev sPurse : Stmt := top 63
theorem scPurse : FnScope ["_law_script", "_law_at", "_law_seed"] ["_law_script", "_law_at"] (defScope sPurse) := ⟨rfl, rfl, rfl, by decide +kernel, rfl, by decide +kernel, by decide +kernel⟩
theorem ok_purse {f : Addr} {fd : FuncData} (F : FnP K "_law_purse" sPurse f fd) (L : Lib K mg) : FnOk P w K mg base CX0 1 f fd ["_law_script", "_law_at"] (spPurse K) := by
  refine okN F scPurse (fun vs H Q E h => ?_) (fun cdv A outer s H vs Q E hr h => ?_)
  · obtain ⟨_, _, _, rfl, _⟩ := h
    rfl
  · obtain ⟨a, i, ns, rfl, hS, i0, i1, k⟩ := h
    refine ⟨_, pss_cons (ps_set (i := 2) scPurse.nd rfl (Or.inl rfl) (pe_callB (cr_sum rfl) (by rfl) L.sum (by decide +kernel) (pa_cons (pe_slice sl_list (pv 0) (po_some (pv 1)) (po_some (pe_op op_add (pv 1) pe_int))) pa_nil)))
      (pss_one (ps_ret (pe_lst (pa_cons (pe_op op_mod (pe_callB (call_max2 rfl) (by rfl) L.max (by decide +kernel) (pa_cons (pe_op op_sub (pv 2) (pe_op op_pow pe_int pe_int)) (pa_cons pe_int pa_nil))) (pe_op op_powW (pe_op op_pow pe_int pe_int) pe_int))
        (pa_cons (pe_op op_mod (pv 2) pe_int) (pa_cons pe_int (pa_cons (pv 1) pa_nil))))))), ?_⟩
    refine ⟨_, rfl, _, rfl, _, rfl, _, rfl, _, _, rfl, rfl, _, rfl, a, _, rfl, hS, fun l nl => ?_⟩
    obtain ⟨zs, ez⟩ := cut_ints ns (some i) (some (i + 1))
    refine ⟨l, zs, rfl, SqL.of (upd_same.trans (congrArg (fun x => some (HO.lst x)) ez)), ?_⟩
    refine ⟨_, rfl, _, _, rfl, rfl, ⟨by decide, by decide, by decide⟩, _, _, rfl, rfl, _, _, rfl, ?_⟩
    refine ⟨_, _, rfl, rfl, ⟨by decide, by decide, by decide⟩, _, _, rfl, rfl, ⟨by decide, by decide +kernel⟩, _, _, rfl, rfl, (by show (0 : Int) < (10 ^ (60 : Int).toNat) ^ (8 : Int).toNat; decide +kernel), ?_⟩
    refine ⟨_, rfl, _, _, rfl, rfl, (by show (0 : Int) < 2147483629; decide), _, rfl, (by show 4 ≤ sizeLine; decide), fun p np => ?_⟩
    have n0 : (upd H l (.lst (cutV (ns.map V.int) (some i) (some (i + 1))))) p = none := np
    have npl : p ≠ l := fun q => by
      rw [q, upd_same] at n0
      cases n0
    have hpn : H p = none := by
      rw [upd_ne npl] at n0
      exact n0
    refine k p _ hpn ⟨_, upd_same, _, zs.sum % 2147483629, 0, i, rfl, Int.emod_nonneg _ (by decide), Int.lt_trans (Int.emod_lt_of_pos _ (by decide)) (by decide), by omega, by omega, i0, i1⟩ fun b o e => ?_
    rw [upd_ne (ne_of_none e hpn), upd_ne (ne_of_none e nl)]
    exact e
end
end G14

set_option maxHeartbeats 8000000
namespace G14
open PySem PySem.Spec PyProof.Rows L2 G1
def Letters (z : Str) : Prop := ∀ c ∈ z.cps.toList, 97 ≤ c ∧ c ≤ 122
/-- a name: one to eight small letters -/
def Nm (z : Str) : Prop := 1 ≤ z.length ∧ z.length ≤ 8 ∧ Letters z
def spWord : Sp := fun vs H Q _ => ∃ (p : Addr) (c : Nat), vs = [.ref p] ∧ Purse H p c ∧ c ≤ 900000 ∧
  ∀ (z : Str) (H' : Hp), Nm z → Purse H' p (c + 27) → But p H H' → Q (.str z) H'
theorem SqL.but {K : PySem.W.Frag} {H H' : Hp} {p l : Addr} {xs : List V} (h : SqL K H l xs) (b : But p H H') (n : l ≠ p) : SqL K H' l xs := by
  rcases h with (h | ⟨o, h⟩) | h
  · exact .inl (.inl (b _ _ n h))
  · exact .inl (.inr ⟨o, b _ _ n h⟩)
  · exact .inr h
theorem at_lt {xs : List V} {r : Int} (h0 : 0 ≤ r) (h1 : r < xs.length) : ∃ v, atI xs r = some v ∧ v ∈ xs := by
  obtain ⟨k, rfl⟩ := Int.eq_ofNat_of_zero_le h0
  have hk : k < xs.length := by omega
  exact ⟨xs[k], atI_nat (List.getElem?_eq_getElem hk), List.getElem_mem hk⟩
end G14

set_option maxHeartbeats 8000000
namespace G14
open PySem PySem.Spec PyProof.Rows L2 G1
/-- the items of a list in some order, a new list -/
def spShuf (K : PySem.W.Frag) : Sp := fun vs H Q _ => ∃ (p l : Addr) (xs : List V) (c : Nat), vs = [.ref p, .ref l] ∧ Purse H p c ∧ c ≤ 900000 ∧ SqL K H l xs ∧ l ≠ p ∧ xs.length ≤ 100 ∧
  ∀ (D : Addr) (ys : List V) (H' : Hp), ys.Perm xs → H' D = some (.lst ys) → H D = none → Purse H' p (c + 3 * xs.length) → But p H H' → Q (.ref D) H'
theorem ins_perm {zs xs : List V} {y : V} {k : Nat} (h : zs.Perm xs) : (zs.take k ++ [y] ++ zs.drop k).Perm (xs ++ [y]) := by
  have e : (zs.take k ++ [y] ++ zs.drop k).Perm ([y] ++ (zs.take k ++ zs.drop k)) := by
    rw [← List.append_assoc]
    exact List.Perm.append_right _ List.perm_append_comm
  rw [List.take_append_drop] at e
  exact (e.trans (List.Perm.append_left [y] h)).trans List.perm_append_comm
theorem sn {H : Hp} {p : Addr} {o : HO} (h : H p = none) : Same H (upd H p o) := fun b u e => by
  rw [upd_ne (ne_of_none e h)]
  exact e
/-- D is new to H -/
theorem but_new {p D : Addr} {H H' : Hp} {o : HO} (B : But p H H') (h : H D = none) : But p H (upd H' D o) := fun b u n e => by
  rw [upd_ne (ne_of_none e h)]
  exact B b u n e
theorem But.get {p b : Addr} {H H' : Hp} {o : HO} (B : But p H H') (n : b ≠ p) (h : H b = some o) : H' b = some o := B b o n h
section
variable {P : Program} {w : World} {K : PySem.W.Frag} {mg : Str → Option Value} {base : Heap}
abbrev sShuf : Stmt := top 67
theorem scShuf : FnScope ["_law_purse_here", "_law_some", "_law_found", "_law_item"] ["_law_purse_here", "_law_some"] (defScope sShuf) := ⟨rfl, rfl, rfl, by decide +kernel, rfl, by decide +kernel, by decide +kernel⟩
theorem ok_shuf {f fD : Addr} {fd fdD : FuncData} (F : FnP K "_law_shuffled" sShuf f fd) (L : Lib K mg) (FD : FnP K "_law_draw" sDraw fD fdD) (gD : mg "_law_draw" = some (.ref fD))
    (GD : FnOk P w K mg base CX0 2 fD fdD ["_law_purse_here", "_law_many"] spDraw) : FnOk P w K mg base CX0 3 f fd ["_law_purse_here", "_law_some"] (spShuf K) := by
  have bD : Binds K fdD ["_law_purse_here", "_law_many"] [] := FD.bindsN fun _ _ _ _ _ _ us hl => match us, hl with | [_, _], _ => rfl
  refine okN F scShuf (fun vs H Q E h => ?_) (fun cdv A outer s H vs Q E hr h => ?_)
  · obtain ⟨_, _, _, _, rfl, _⟩ := h
    rfl
  · obtain ⟨p, l, xs, c, rfl, hp, hc, hl, nlp, hx, k⟩ := h
    refine ⟨_, pss_cons (ps_set (i := 2) scShuf.nd rfl (Or.inl rfl) (pe_lst pa_nil))
      (pss_cons (ps_for PassesOwn.never rfl (pi_list (pv 1)) (pg_name (i := 3) scShuf.nd rfl (Or.inl rfl))
        (pss_one (ps_expr (pe_bm PySem.F.plainAttrs_list PySem.F.slot_list_insert PySem.F.type_list_insert mt_insert (pv 2)
          (pa_cons (pe_call GD hr rfl gD FD.kp bD .nil pass0 (pa_cons (pv 0) (pa_cons (pe_op op_add (pe_callB call_len_seq (by rfl) L.len PySem.boot_len (pa_cons (pv 2) pa_nil)) pe_int) pa_nil))) (pa_cons (pv 3) pa_nil))))))
      (pss_one (ps_ret (pv 2)))), ?_⟩
    obtain ⟨pxs, hpx, hpl⟩ := id hp
    refine ⟨Nat.zero_le _, fun D hD => ⟨_, rfl, l, rfl, ⟨_, SqL.but hl (But.same (sn hD)) nlp⟩, for_list (K := K) (a := l) (xs := xs) (fun i σ H' => ∃ (o : Option V) (zs : List V), σ = [some (.ref p), some (.ref l), some (.ref D), o] ∧ zs.Perm (xs.take i) ∧ H' D = some (.lst zs) ∧ Purse H' p (c + 3 * i) ∧ But p H H')
      ?_ ?_ ?_ ?_⟩⟩
    · exact ⟨none, [], rfl, .refl _, upd_same, hp.same (sn hD), But.same (sn hD)⟩
    · rintro i σ H' _ ⟨o, zs, rfl, _, _, _, hb⟩
      exact SqL.but hl hb nlp
    · rintro i y σ H' hi ⟨o, zs, rfl, hz, hD', hp', hb⟩
      have hi1 : i < xs.length := (List.getElem?_eq_some_iff.mp hi).1
      have lz : zs.length = i := by
        rw [hz.length_eq, List.length_take]
        omega
      have nDp : D ≠ p := Ne.symm (ne_of_none hpx hD)
      refine ⟨_, rfl, .inl ⟨rfl, _, SqL.of hD'⟩, ?_⟩
      refine ⟨_, rfl, _, rfl, D, zs, rfl, .inl (SqL.of hD'), _, _, rfl, rfl, ?_⟩
      refine ⟨p, ((zs.length : Int) + 1), c + 3 * i, rfl, by omega, by omega, hp', by omega, fun r H2 r0 r1 hp2 hb2 => ?_⟩
      have hD2 := hb2 _ _ nDp hD'
      refine ⟨_, rfl, D, zs, r, y, rfl, rfl, hD2, small1000 (by omega), r0, by omega, ?_⟩
      refine ⟨_, _, rfl, (ins_perm hz).trans ?_, upd_same, (hp2.but (But.upd (p := D)) (Ne.symm nDp)).mono (by omega), but_new (hb.trans hb2) hD⟩
      rw [List.take_succ, hi]
      exact .refl _
    · rintro σ H' ⟨o, zs, rfl, hz, hD', hp', hb⟩
      rw [List.take_length] at hz
      exact ⟨_, rfl, k D zs H' hz hD' hD hp' hb⟩
end
end G14

set_option maxHeartbeats 8000000
namespace G14
open PySem PySem.Spec PyProof.Rows L2 G1
/-! ### the order of texts -/
def leS (a b : Str) : Prop := ¬ (b.cps.toList < a.cps.toList)
theorem leS_of {a b : Str} (h : ltCps b.cps.toList a.cps.toList = false) : leS a b := by
  rw [ltCps_eq] at h
  exact of_decide_eq_false h
theorem leS_trans {a b c : Str} (h1 : leS a b) (h2 : leS b c) : leS a c := fun z => by
  have l1 : a.cps.toList ≤ b.cps.toList := h1
  have l2 : b.cps.toList ≤ c.cps.toList := h2
  exact (List.le_trans l1 l2) z
theorem str_ext {a b : Str} (h : a.cps.toList = b.cps.toList) : a = b := by
  obtain ⟨⟨a⟩⟩ := a
  obtain ⟨⟨b⟩⟩ := b
  simp only at h
  rw [h]
theorem leS_anti {a b : Str} (h1 : leS a b) (h2 : leS b a) : a = b := str_ext (List.le_antisymm (show a.cps.toList ≤ b.cps.toList from h1) (show b.cps.toList ≤ a.cps.toList from h2))
theorem rising_pw : ∀ (p : Str) (l : List Str), risingS p l = true → (p :: l).Pairwise leS
  | p, [], _ => List.pairwise_singleton _ _
  | p, x :: r, h => by
    obtain ⟨h1, h2⟩ := He.ba (show (!ltCps x.cps.toList p.cps.toList && risingS x r) = true from h)
    have l1 : leS p x := leS_of (by simpa using h1)
    have ih := rising_pw x r h2
    refine List.pairwise_cons.mpr ⟨fun y hy => ?_, ih⟩
    rcases List.mem_cons.mp hy with rfl | hy
    · exact l1
    · exact leS_trans l1 (List.rel_of_pairwise_cons ih hy)
theorem sorted_pw {l : List Str} (h : sortedS l = true) : l.Pairwise leS := match l, h with
  | [], _ => .nil
  | x :: r, h => rising_pw x r h
theorem pw_eq : ∀ {xs ys : List Str}, xs.Pairwise leS → ys.Pairwise leS → xs.Perm ys → xs = ys
  | [], ys, _, _, p => (List.nil_perm.mp p).symm
  | x :: xs, [], _, _, p => by
    have := p.length_eq
    simp at this
  | x :: xs, y :: ys, h1, h2, p => by
    have e : x = y := by
      rcases List.mem_cons.mp (p.mem_iff.mp (List.mem_cons_self : x ∈ x :: xs)) with q | q
      · exact q
      · rcases List.mem_cons.mp (p.mem_iff.mpr (List.mem_cons_self : y ∈ y :: ys)) with r | r
        · exact r.symm
        · exact leS_anti (List.rel_of_pairwise_cons h1 r) (List.rel_of_pairwise_cons h2 q)
    subst e
    rw [pw_eq (List.pairwise_cons.mp h1).2 (List.pairwise_cons.mp h2).2 p.cons_inv]
/-- sorted lists of the same texts are the same -/
theorem sorted_uniq {xs ys : List Str} (h1 : sortedS xs = true) (h2 : sortedS ys = true) (p : xs.Perm ys) : xs = ys := pw_eq (sorted_pw h1) (sorted_pw h2) p
/-- entries: names, no one twice, in order -/
structure Ents (xs : List Str) : Prop where
  nm : ∀ x ∈ xs, Nm x
  nd : xs.Nodup
  so : sortedS xs = true
  st : ("pie" : Str) ∉ xs ∨ ("tart" : Str) ∉ xs
theorem map_str_inj : ∀ {xs ys : List Str}, xs.map V.str = ys.map V.str → xs = ys
  | [], [], _ => rfl
  | [], _ :: _, h => by cases h
  | _ :: _, [], h => by cases h
  | x :: xs, y :: ys, h => by
    injection h with h1 h2
    injection h1 with h3
    rw [h3, map_str_inj h2]
/-- a permutation of texts is one of texts -/
theorem perm_strs {ys : List V} {xs : List Str} (p : ys.Perm (xs.map V.str)) : ∃ zs : List Str, ys = zs.map V.str ∧ zs.Perm xs := by
  refine ⟨ys.map fun v => match v with | .str s => s | _ => Str.empty, ?_, ?_⟩
  · rw [List.map_map]
    refine (List.map_id' ys).symm.trans (List.map_congr_left fun v hv => ?_)
    obtain ⟨s, _, rfl⟩ := List.mem_map.mp (p.mem_iff.mp hv)
    rfl
  · have q := p.map fun v => match v with | .str s => s | _ => Str.empty
    rw [List.map_map] at q
    exact q.trans (by
      rw [show ((fun v => match v with | V.str s => s | _ => Str.empty) ∘ V.str) = id from rfl, List.map_id])
end G14

set_option maxHeartbeats 8000000
namespace G14
open PySem PySem.Spec PyProof.Rows L2 G1
def spNames : Sp := fun vs H Q _ => ∃ (p : Addr) (m : Int) (c : Nat), vs = [.ref p, .int m] ∧ 1 ≤ m ∧ m ≤ 8 ∧ Purse H p c ∧ c ≤ 100000 ∧
  ∀ (D : Addr) (xs : List Str) (H' : Hp), Ents xs → (xs.length : Int) = m → H' D = some (.lst (xs.map V.str)) → H D = none → Purse H' p (c + 100) → But p H H' → Q (.ref D) H'
def some8 : List Str := ["ale", "bun", "cob", "a", "zz", "egg", "marrows", "jam"]
theorem some8_nd : some8.Nodup := by decide +kernel
theorem some8_nm : ∀ x ∈ some8, Nm x := by
  have h : ∀ x ∈ some8, 1 ≤ x.length ∧ x.length ≤ 8 ∧ ∀ c ∈ x.cps.toList, 97 ≤ c ∧ c ≤ 122 := by decide +kernel
  exact h
theorem inV_str {xs : List Str} {x : Str} : inV (.str x) (xs.map V.str) = decide (x ∈ xs) := by
  unfold inV
  induction xs with
  | nil => simp
  | cons y ys ih =>
    rw [List.map_cons, List.any_cons, ih, show eqV (.str y) (.str x) = (y == x) from rfl]
    by_cases e : y = x
    · simp [e]
    · have e2 : (y == x) = false := beq_eq_false_iff_ne.mpr e
      simp only [e2, Bool.false_or, List.mem_cons, Ne.symm e, false_or]
theorem flat_strs {xs : List Str} : (xs.map V.str).all flatV = true := by
  rw [List.all_map]
  exact List.all_eq_true.mpr fun _ _ => rfl
theorem cut_take {xs : List V} {m : Nat} (h : m ≤ xs.length) : cutV xs none (some (m : Int)) = xs.take m := by
  have e : HT.sIx xs.length xs.length (some (m : Int)) = m := by
    unfold HT.sIx
    simp only [Int.toNat_natCast]
    rw [if_neg (by omega)]
    omega
  unfold cutV
  rw [e]
  rfl
theorem nil_or {z : Str} : (if z ∈ some8 then [] else [V.str z]) = (if z ∈ some8 then ([] : List Str) else [z]).map V.str := by
  by_cases h : z ∈ some8
  · rw [if_pos h, if_pos h]
    rfl
  · rw [if_neg h, if_neg h]
    rfl
/-- the eight and a fresh one -/
def nine (z : Str) : List Str := some8 ++ (if z ∈ some8 then [] else [z])
theorem nine_nd (z : Str) : (nine z).Nodup := by
  unfold nine
  by_cases h : z ∈ some8
  · rw [if_pos h, List.append_nil]
    exact some8_nd
  · rw [if_neg h]
    refine List.nodup_append.mpr ⟨some8_nd, List.pairwise_singleton _ _, fun a ha b hb e => ?_⟩
    rw [List.mem_singleton.mp hb] at e
    exact h (e ▸ ha)
theorem nine_nm {z : Str} (hz : Nm z) : ∀ x ∈ nine z, Nm x := by
  intro x hx
  unfold nine at hx
  rcases List.mem_append.mp hx with h | h
  · exact some8_nm x h
  · by_cases q : z ∈ some8
    · rw [if_pos q] at h
      cases h
    · rw [if_neg q] at h
      rw [List.mem_singleton.mp h]
      exact hz
theorem nine_st (z : Str) : ("pie" : Str) ∉ nine z ∨ ("tart" : Str) ∉ nine z := by
  have a1 : ("pie" : Str) ∉ some8 := by decide +kernel
  have a2 : ("tart" : Str) ∉ some8 := by decide +kernel
  have ne : ("pie" : Str) ≠ "tart" := by decide +kernel
  have one : ∀ y, y ∉ some8 → y ∈ nine z → y = z := fun y n h => by
    unfold nine at h
    rcases List.mem_append.mp h with h | h
    · exact absurd h n
    · by_cases q : z ∈ some8
      · rw [if_pos q] at h
        cases h
      · rw [if_neg q] at h
        exact List.mem_singleton.mp h
  by_cases h : ("pie" : Str) ∈ nine z
  · exact .inr fun h2 => ne ((one _ a1 h).trans (one _ a2 h2).symm)
  · exact .inl h
theorem nine_len (z : Str) : 8 ≤ (nine z).length ∧ (nine z).length ≤ 9 := by
  have e : some8.length = 8 := rfl
  unfold nine
  rw [List.length_append, e]
  by_cases h : z ∈ some8
  · rw [if_pos h]
    exact ⟨by simp, by simp⟩
  · rw [if_neg h]
    exact ⟨by simp, by simp⟩
end G14

set_option maxHeartbeats 8000000
namespace G14
open PySem PySem.Spec PyProof.Rows L2 G1
/-- lists of texts at these places -/
inductive RowsAt (H : Hp) : List Addr → List (List Str) → Prop
  | nil : RowsAt H [] []
  | cons {a : Addr} {r : List Str} {as : List Addr} {rs : List (List Str)} : H a = some (.lst (r.map V.str)) → RowsAt H as rs → RowsAt H (a :: as) (r :: rs)
theorem RowsAt.keep {H H' : Hp} {as : List Addr} {rs : List (List Str)} (h : RowsAt H as rs) (k : ∀ a ∈ as, ∀ o, H a = some o → H' a = some o) : RowsAt H' as rs := by
  induction h with
  | nil => exact .nil
  | cons e _ ih => exact .cons (k _ List.mem_cons_self _ e) (ih fun a ha => k a (List.mem_cons_of_mem _ ha))
theorem RowsAt.same {H H' : Hp} {as : List Addr} {rs : List (List Str)} (h : RowsAt H as rs) (s : Same H H') : RowsAt H' as rs := h.keep fun a _ o e => s a o e
theorem RowsAt.snoc {H : Hp} {a : Addr} {r : List Str} {as : List Addr} {rs : List (List Str)} (h : RowsAt H as rs) (e : H a = some (.lst (r.map V.str))) : RowsAt H (as ++ [a]) (rs ++ [r]) := by
  induction h with
  | nil => exact .cons e .nil
  | cons e2 _ ih => exact .cons e2 ih
theorem RowsAt.len {H : Hp} {as : List Addr} {rs : List (List Str)} (h : RowsAt H as rs) : as.length = rs.length := by
  induction h with
  | nil => rfl
  | cons _ _ ih => rw [List.length_cons, List.length_cons, ih]
theorem RowsAt.strs {H : Hp} {as : List Addr} {rs : List (List Str)} (h : RowsAt H as rs) {a : Addr} (ha : a ∈ as) : ∃ r ∈ rs, H a = some (.lst (r.map V.str)) := by
  induction h with
  | nil => cases ha
  | cons e _ ih =>
    rcases List.mem_cons.mp ha with rfl | ha
    · exact ⟨_, List.mem_cons_self, e⟩
    · obtain ⟨r, hr, e⟩ := ih ha
      exact ⟨r, List.mem_cons_of_mem _ hr, e⟩
/-- a list without whole numbers is no purse -/
theorem ne_purse {H : Hp} {a p : Addr} {xs : List V} {c : Nat} (h : H a = some (.lst xs)) (hx : ∀ v ∈ xs, ∀ i, v ≠ .int i) (hp : Purse H p c) : a ≠ p := by
  rintro rfl
  obtain ⟨_, hpx, v, s, t, b, rfl, _⟩ := hp
  rw [h] at hpx
  injection hpx with e
  injection e with e
  exact hx (.int v) (by rw [e]; exact List.mem_cons_self) v rfl
theorem str_no_int {r : List Str} : ∀ v ∈ r.map V.str, ∀ i, v ≠ .int i := by
  intro v hv i e
  obtain ⟨_, _, rfl⟩ := List.mem_map.mp hv
  cases e
theorem ref_no_int {r : List Addr} : ∀ v ∈ r.map V.ref, ∀ i, v ≠ .int i := by
  intro v hv i e
  obtain ⟨_, _, rfl⟩ := List.mem_map.mp hv
  cases e
theorem RowsAt.but {H H' : Hp} {as : List Addr} {rs : List (List Str)} {p : Addr} {c : Nat} (h : RowsAt H as rs) (b : But p H H') (hp : Purse H p c) : RowsAt H' as rs := h.keep fun a ha o e => by
  obtain ⟨r, _, e2⟩ := h.strs ha
  exact b a o (ne_purse e2 str_no_int hp) e
theorem new_back {p a : Addr} {H H' : Hp} {c : Nat} (b : But p H H') (hp : Purse H' p c) (n : H' a = none) : H a = none := by
  cases e : H a with
  | none => rfl
  | some o =>
    obtain ⟨pxs, hpx, _⟩ := id hp
    have q := b _ _ (Ne.symm (ne_of_none hpx n)) e
    rw [n] at q
    cases q
theorem cut_any {xs : List V} {m : Nat} : cutV xs none (some (m : Int)) = xs.take m := by
  by_cases h : m ≤ xs.length
  · exact cut_take h
  · have e : HT.sIx xs.length xs.length (some (m : Int)) = xs.length := by
      unfold HT.sIx
      simp only [Int.toNat_natCast]
      rw [if_neg (by omega)]
      omega
    unfold cutV
    rw [e, List.take_of_length_le (show xs.length ≤ m by omega)]
    exact List.take_of_length_le (Nat.le_refl _)
/-- the head of one row, then the others in the order of another one -/
theorem mixed_perm {xs bs rr : List Str} (hx : xs.Nodup) (hb : bs.Perm xs) (hr : rr.Perm xs) (m : Nat) : (rr.take m ++ bs.filter (fun z => decide (z ∉ rr.take m))).Perm xs := by
  have nt : (rr.take m).Nodup := List.Nodup.sublist (List.take_sublist _ _) (hr.nodup_iff.mpr hx)
  have nb : (bs.filter (fun z => decide (z ∉ rr.take m))).Nodup := List.Nodup.sublist List.filter_sublist (hb.nodup_iff.mpr hx)
  refine (List.perm_ext_iff_of_nodup (List.nodup_append.mpr ⟨nt, nb, fun a ha b hb2 e => ?_⟩) hx).mpr fun z => ?_
  · subst e
    have := (List.mem_filter.mp hb2).2
    exact of_decide_eq_true this ha
  · rw [List.mem_append, List.mem_filter]
    constructor
    · rintro (h | ⟨h, _⟩)
      · exact hr.mem_iff.mp (List.mem_of_mem_take h)
      · exact hb.mem_iff.mp h
    · intro h
      by_cases q : z ∈ rr.take m
      · exact .inl q
      · exact .inr ⟨hb.mem_iff.mpr h, decide_eq_true q⟩
def spRows (K : PySem.W.Frag) : Sp := fun vs H Q _ => ∃ (p n : Addr) (m : Int) (c : Nat) (xs : List Str), vs = [.ref p, .ref n, .int m] ∧ 1 ≤ m ∧ m ≤ 5 ∧ Purse H p c ∧ c ≤ 200000 ∧ SqL K H n (xs.map V.str) ∧ n ≠ p ∧ xs.Nodup ∧ 1 ≤ xs.length ∧ xs.length ≤ 6 ∧
  ∀ (D : Addr) (as : List Addr) (rs : List (List Str)) (H' : Hp), H' D = some (.lst (as.map V.ref)) → H D = none → RowsAt H' as rs → (∀ a ∈ as, H a = none ∧ a ≠ D) → (rs.length : Int) = m → (∀ r ∈ rs, r.Perm xs) → Purse H' p (c + 200) → But p H H' → Q (.ref D) H'
end G14

set_option maxHeartbeats 8000000
namespace G14
open PySem PySem.Spec PyProof.Rows L2 G1
/-- a comprehension over a text, sign by sign -/
theorem lc_str {x : Str} {g : TG} {tt : TT} {te : TE} {vs : List Nat} {σ : L2.St} {H1 : Hp} {D : Addr} {Qd : Hp → Prop} (Pv : Nat → Hp → Prop) (h0 : Pv 0 (upd H1 D (.lst [])))
    (hs : ∀ i c H, x.cps[i]? = some c → Pv i H → g (.str ⟨#[c]⟩) (wipe σ vs) H fun σ2 H2 => wipe σ2 vs = wipe σ vs ∧ tt σ2 H2 fun b H3 =>
      if b = true then te σ2 H3 fun y H4 => ∃ acc, H4 D = some (.lst acc) ∧ acc.length < sizeLine ∧ Pv (i + 1) (upd H4 D (.lst (acc ++ [y]))) else Pv (i + 1) H3) (hd : ∀ H, Pv x.cps.size H → Qd H) :
    ∃ W : Nat → Nat → Hp → Prop, (∃ m, W 0 m (upd H1 D (.lst []))) ∧ ∀ i m H, W i m H →
      ((Its x).stop i H ∧ Qd H) ∨ ((Its x).go i H ∧ ∃ Nx : Hp → Prop, (∀ H', Nx H' → ∃ m', m' < m ∧ W (i + 1) m' H') ∧ ∀ y H', (Its x).yld i H y H' → g y (wipe σ vs) H' fun σ2 H2 => wipe σ2 vs = wipe σ vs ∧ tt σ2 H2 fun b H3 =>
        if b = true then te σ2 H3 fun y H4 => ∃ acc, H4 D = some (.lst acc) ∧ acc.length < sizeLine ∧ Nx (upd H4 D (.lst (acc ++ [y]))) else Nx H3) := by
  refine ⟨fun i m H => m = x.cps.size - i ∧ i ≤ x.cps.size ∧ Pv i H, ⟨x.cps.size, rfl, Nat.zero_le _, h0⟩, ?_⟩
  rintro i m H ⟨rfl, hi, p⟩
  by_cases lt : i < x.cps.size
  · refine .inr ⟨lt, Pv (i + 1), fun H' p' => ⟨x.cps.size - (i + 1), by omega, rfl, lt, p'⟩, fun y H' z => ?_⟩
    obtain ⟨rfl, c, hc, rfl⟩ := z
    exact hs i c H' hc p
  · refine .inl ⟨Nat.le_of_not_lt lt, hd H ?_⟩
    have e : i = x.cps.size := by omega
    rw [← e]
    exact p
def isLetter (c : Nat) : Bool := decide (97 ≤ c) && decide (c ≤ 122)
def isNm (z : Str) : Bool := decide (1 ≤ z.length) && (decide (z.length ≤ 8) && z.cps.toList.all isLetter)
theorem isNm_iff {z : Str} : isNm z = true ↔ Nm z := by
  unfold isNm Nm Letters
  rw [Bool.and_eq_true, Bool.and_eq_true, decide_eq_true_iff, decide_eq_true_iff, List.all_eq_true]
  unfold isLetter
  simp only [Bool.and_eq_true, decide_eq_true_iff]
/-- what is known of a value where it is asked whether it is a name -/
inductive Nmb (K : PySem.W.Frag) (H : Hp) : V → Bool → Prop
  | str {z : Str} : z.length ≤ 1000 → Nmb K H (.str z) (isNm z)
  | not {v : V} {T : String} : TyX K H v (.type T) → kitB T "str" = some false → Nmb K H v false
def spIsName (K : PySem.W.Frag) : Sp := fun vs H Q _ => ∃ (v : V) (b : Bool), vs = [v] ∧ Nmb K H v b ∧ ∀ H', Same H H' → Q (.bl b) H'
theorem sign_le {c : Nat} : (!decide ((⟨#[c]⟩ : Str).cps.toList < ("a" : Str).cps.toList)) = decide (97 ≤ c) := by
  have e : ((⟨#[c]⟩ : Str).cps.toList < ("a" : Str).cps.toList) ↔ c < 97 := by
    show ([c] : List Nat) < [97] ↔ _
    rw [List.cons_lt_cons_iff]
    simp
  by_cases h : c < 97
  · rw [decide_eq_true (e.mpr h), decide_eq_false (by omega)]
    rfl
  · rw [decide_eq_false (fun q => h (e.mp q)), decide_eq_true (by omega)]
    rfl
theorem sign_ge {c : Nat} : (!decide (("z" : Str).cps.toList < (⟨#[c]⟩ : Str).cps.toList)) = decide (c ≤ 122) := by
  have e : (("z" : Str).cps.toList < (⟨#[c]⟩ : Str).cps.toList) ↔ 122 < c := by
    show ([122] : List Nat) < [c] ↔ _
    rw [List.cons_lt_cons_iff]
    simp
  by_cases h : 122 < c
  · rw [decide_eq_true (e.mpr h), decide_eq_false (by omega)]
    rfl
  · rw [decide_eq_false (fun q => h (e.mp q)), decide_eq_true (by omega)]
    rfl
structure LibP (mg : Str → Option Value) : Prop where
  all : mg "all" = none
  isi : mg "isinstance" = none
  str : mg "str" = none
  list : mg "list" = none
  set : mg "set" = none
  sorted : mg "sorted" = none
  long : ∃ t, mg "LONGEST_NAME" = some (.int 8 t)
section
variable {P : Program} {w : World} {K : PySem.W.Frag} {mg : Str → Option Value} {base : Heap}
abbrev sIsName : Stmt := top 12
theorem scIsName : FnScope ["value", "sign"] ["value"] (defScope sIsName) := ⟨rfl, rfl, rfl, by decide +kernel, rfl, by decide +kernel, by decide +kernel⟩
theorem ok_isName {f : Addr} {fd : FuncData} (F : FnP K "is_name" sIsName f fd) (L : Lib K mg) (LP : LibP mg) : FnOk P w K mg base CX0 1 f fd ["value"] (spIsName K) := by
  obtain ⟨tL, hL⟩ := LP.long
  refine okN F scIsName (fun vs H Q E h => ?_) (fun cdv A outer s H vs Q E hr h => ?_)
  · obtain ⟨_, _, rfl, _⟩ := h
    rfl
  · obtain ⟨v, b, rfl, hv, k⟩ := h
    refine ⟨_, pss_cons (ps_if (pt_not (pt_val (pe_callB call_isi (by rfl) LP.isi (by decide +kernel) (pa_cons (pv 0) (pa_cons (pe_bltn (v := .ty "str") (by rfl) LP.str (by decide +kernel) rfl) pa_nil))))) (pss_one (ps_ret pe_bl)) pss_nil)
      (pss_one (ps_ret (pe_and (pe_chain op_le op_le pe_int (pe_callB call_len_str (by rfl) L.len PySem.boot_len (pa_cons (pv 0) pa_nil)) (pe_glob (v := .int 8) (by rfl) hL ⟨_, rfl⟩))
        (pe_one (pe_callB (cr_all rfl) (by rfl) LP.all (by decide +kernel) (pa_cons
          (pe_lc (own := [("sign", 1)]) (g := gName 1) (tt := tYes) (te := tChain (fun x y H Q => ∃ i j, x = .str i ∧ y = .str j ∧ Q (.bl (!decide (j.cps.toList < i.cps.toList))) H) (fun x y H Q => ∃ i j, x = .str i ∧ y = .str j ∧ Q (.bl (!decide (j.cps.toList < i.cps.toList))) H) (tC (.str "a")) (tVar 1) (tC (.str "z"))) rfl scIsName.nd (pi_str (pv 0))
            (blkOk_by (N := ["value", "sign"]) (sc := defScope sIsName) (by decide +kernel)) (fun _ _ _ _ _ => pg_name (i := 1) scIsName.nd rfl (Or.inl rfl)) (fun _ _ _ _ _ => pts_nil)
            (fun _ _ _ _ _ => pe_chain op_le_str op_le_str pe_str (pv 1) pe_str)) pa_nil)))))), ?_⟩
    cases hv with
    | @not _ T ty n =>
      refine ⟨_, rfl, v, .ty "str", .type T, .type "str", false, rfl, .ty _, ty, kit_ty n, false, rfl, iteT ?_⟩
      exact k H (Same.refl H)
    | @str z hz =>
      refine ⟨_, rfl, .str z, .ty "str", .type "str", .type "str", true, rfl, .ty _, ?_, kit_ty (by decide +kernel), true, rfl, iteF ?_⟩
      · exact .base (.str z)
      refine ⟨_, rfl, z, rfl, Nat.le_of_lt (small1000 hz), _, _, rfl, rfl, _, rfl, ?_⟩
      refine ite2 (fun h1 => ?_) (fun h1 => ?_)
      · refine ⟨_, _, rfl, rfl, _, rfl, ite2 (fun h2 => ?_) (fun h2 => ?_)⟩
        · refine ⟨_, rfl, z, rfl, fun D hD => lc_str (x := z) (fun i H' => H' D = some (.lst ((z.cps.toList.take i).map fun c => V.bl (isLetter c))) ∧ Same H H') ⟨upd_same, sn hD⟩ ?_ ?_⟩
          · rintro i c H' hc ⟨q1, q2⟩
            have add : ∀ b : Bool, b = isLetter c → ∃ acc, H' D = some (HO.lst acc) ∧ acc.length < sizeLine ∧ (fun (i : Nat) (H' : Hp) => H' D = some (.lst ((z.cps.toList.take i).map fun c => V.bl (isLetter c))) ∧ Same H H') (i + 1) (upd H' D (.lst (acc ++ [V.bl b]))) := fun b hb => by
              refine ⟨_, q1, ?_, ?_, fun b o e => ?_⟩
              · refine small1000 ?_
                rw [List.length_map]
                have := List.length_take_le' i z.cps.toList
                have e2 : z.cps.toList.length = z.length := by simp [Str.length]
                omega
              · have hc2 : z.cps.toList[i]? = some c := by rw [Array.getElem?_toList]; exact hc
                rw [upd_same, List.take_succ, hc2, List.map_append, hb]
                rfl
              · rw [upd_ne (ne_of_none e hD)]
                exact q2 _ _ e
            refine ⟨rfl, _, rfl, _, _, rfl, rfl, _, rfl, ite2 (fun l1 => ?_) (fun l1 => ?_)⟩
            · rw [sign_le] at l1
              refine ⟨_, _, rfl, rfl, ?_⟩
              rw [sign_ge]
              exact add _ (by unfold isLetter; rw [l1, Bool.true_and])
            · rw [sign_le] at l1
              exact add _ (by unfold isLetter; rw [Bool.eq_false_iff.mpr l1, Bool.false_and])
          · rintro H' ⟨q1, q2⟩
            refine ⟨D, z.cps.toList.map isLetter, rfl, SqL.of ?_, ?_⟩
            · rw [q1, List.take_of_length_le (by simp), List.map_map]
              rfl
            · rw [List.all_map]
              have e : isNm z = z.cps.toList.all (id ∘ isLetter) := by
                unfold isNm
                rw [decide_eq_true (show 1 ≤ z.length by have q := of_decide_eq_true h1; omega), decide_eq_true (show z.length ≤ 8 by have q := of_decide_eq_true h2; omega), Bool.true_and, Bool.true_and]
                rfl
              rw [← e]
              exact k H' q2
        · have e : isNm z = false := by
            unfold isNm
            rw [decide_eq_false (show ¬ z.length ≤ 8 by have q := of_decide_eq_false (Bool.eq_false_iff.mpr h2); omega), Bool.false_and, Bool.and_false]
          rw [e] at k
          exact k H (Same.refl H)
      · have e : isNm z = false := by
          unfold isNm
          rw [decide_eq_false (show ¬ 1 ≤ z.length by have q := of_decide_eq_false (Bool.eq_false_iff.mpr h1); omega), Bool.false_and]
        rw [e] at k
        exact ⟨false, rfl, iteF (k H (Same.refl H))⟩
end
end G14

set_option maxHeartbeats 8000000
namespace G14
open PySem PySem.Spec PyProof.Rows L2 G1
theorem TyX.same {K : PySem.W.Frag} {H H' : Hp} {v : V} {t : Value} (h : TyX K H v t) (s : Same H H') : TyX K H' v t := by
  cases h with
  | base h =>
    refine .base ?_
    cases h with
    | non => exact .non
    | bl x => exact .bl x
    | int x => exact .int x
    | str x => exact .str x
    | flt x => exact .flt x
    | lst e => exact .lst (s _ _ e)
    | frz e => exact .frz (s _ _ e)
    | tup e => exact .tup (s _ _ e)
    | dK e => exact .dK (s _ _ e)
    | dT e => exact .dT (s _ _ e)
    | ins e cl a b c d => exact .ins (s _ _ e) cl a b c d
  | byt b => exact .byt b
  | set e => exact .set (s _ _ e)
  | kList e c => exact .kList e c
  | kTuple e c => exact .kTuple e c
  | kDict e c => exact .kDict e c
  | fTuple e => exact .fTuple (s _ _ e)
  | fDict e => exact .fDict (s _ _ e)
theorem Nmb.same {K : PySem.W.Frag} {H H' : Hp} {v : V} {b : Bool} (h : Nmb K H v b) (s : Same H H') : Nmb K H' v b := by
  cases h with
  | str h => exact .str h
  | not t n => exact .not (TyX.same t s) n
inductive NmbL (K : PySem.W.Frag) (H : Hp) : List V → List Bool → Prop
  | nil : NmbL K H [] []
  | cons {v : V} {b : Bool} {vs : List V} {bs : List Bool} : Nmb K H v b → NmbL K H vs bs → NmbL K H (v :: vs) (b :: bs)
theorem NmbL.len {K : PySem.W.Frag} {H : Hp} {vs : List V} {bs : List Bool} (h : NmbL K H vs bs) : vs.length = bs.length := by
  induction h with
  | nil => rfl
  | cons _ _ ih => rw [List.length_cons, List.length_cons, ih]
theorem NmbL.same {K : PySem.W.Frag} {H H' : Hp} {vs : List V} {bs : List Bool} (h : NmbL K H vs bs) (s : Same H H') : NmbL K H' vs bs := by
  induction h with
  | nil => exact .nil
  | cons e _ ih => exact .cons (e.same s) ih
theorem NmbL.at {K : PySem.W.Frag} {H : Hp} {vs : List V} {bs : List Bool} (h : NmbL K H vs bs) : ∀ {i : Nat} {v : V}, vs[i]? = some v → ∃ b, bs[i]? = some b ∧ Nmb K H v b := by
  induction h with
  | nil => intro i v e; cases e
  | @cons v0 b0 vs bs h0 _ ih =>
    intro i v e
    match i, e with
    | 0, e =>
      cases e
      exact ⟨b0, rfl, h0⟩
    | i + 1, e => exact ih e
theorem NmbL.names {K : PySem.W.Frag} {H : Hp} {vs : List V} {bs : List Bool} (h : NmbL K H vs bs) (a : bs.all id = true) : ∃ zs : List Str, vs = zs.map V.str ∧ ∀ z ∈ zs, Nm z := by
  induction h with
  | nil => exact ⟨[], rfl, fun z hz => nomatch hz⟩
  | cons h0 _ ih =>
    rw [List.all_cons] at a
    obtain ⟨a1, a2⟩ := He.ba a
    obtain ⟨zs, rfl, hz⟩ := ih a2
    cases h0 with
    | @str z hl => exact ⟨z :: zs, rfl, fun y hy => by
        rcases List.mem_cons.mp hy with rfl | hy
        · exact isNm_iff.mp a1
        · exact hz y hy⟩
    | not _ _ => cases a1
theorem NmbL.ofNames {K : PySem.W.Frag} {H : Hp} {zs : List Str} (h : ∀ z ∈ zs, Nm z) : NmbL K H (zs.map V.str) (zs.map fun _ => true) := by
  induction zs with
  | nil => exact .nil
  | cons z zs ih =>
    have q := h z List.mem_cons_self
    have e := isNm_iff.mpr q
    have p : Nmb K H (.str z) (isNm z) := .str (by have := q.2.1; omega)
    rw [e] at p
    exact .cons p (ih fun y hy => h y (List.mem_cons_of_mem _ hy))
/-- what is told of it: no list, or a list with something in it that is no name; or names, and whether there are some, and no one twice -/
inductive Unl (K : PySem.W.Frag) (H : Hp) : V → Bool → Prop
  | no {v : V} {T : String} : TyX K H v (.type T) → kitB T "list" = some false → Unl K H v false
  | odd {a : Addr} {xs : List V} {bs : List Bool} : H a = some (.lst xs) → xs.length ≤ 100 → NmbL K H xs bs → bs.all id = false → Unl K H (.ref a) false
  | names {a : Addr} {zs : List Str} : H a = some (.lst (zs.map V.str)) → zs.length ≤ 100 → (∀ z ∈ zs, Nm z) → Unl K H (.ref a) (!zs.isEmpty && decide zs.Nodup)
theorem cnt_nodup (zs : List Str) : decide ((cntS zs zs.length : Int) = (zs.length : Int)) = decide zs.Nodup := by
  have q := cntS_full zs zs.length (Nat.le_refl _)
  rw [List.take_length] at q
  by_cases h : zs.Nodup
  · rw [decide_eq_true h, decide_eq_true (by have := q.mpr h; omega)]
  · rw [decide_eq_false h, decide_eq_false (fun e => h (q.mp (by omega)))]
def ndB (xs : List V) : Bool := decide ((xs.filterMap fun v => match v with | .str s => some s | _ => none).Nodup)
theorem nd_strs {zs : List Str} : ndB (zs.map V.str) = decide zs.Nodup := by
  unfold ndB
  rw [List.filterMap_map, show ((fun v => match v with | V.str s => some s | _ => none) ∘ V.str) = some from rfl, List.filterMap_some]
theorem unl_cases {K : PySem.W.Frag} {H : Hp} {v : V} {b : Bool} (h : Unl K H v b) : (∃ T, TyX K H v (.type T) ∧ kitB T "list" = some false ∧ b = false) ∨
    (∃ (a : Addr) (xs : List V) (bs : List Bool), v = .ref a ∧ H a = some (.lst xs) ∧ xs.length ≤ 100 ∧ NmbL K H xs bs ∧ b = (!xs.isEmpty && (bs.all id && ndB xs))) := by
  cases h with
  | @no _ T ty n => exact .inl ⟨T, ty, n, rfl⟩
  | @odd a xs bs h1 h2 h3 h4 => exact .inr ⟨a, xs, bs, rfl, h1, h2, h3, by rw [h4, Bool.false_and, Bool.and_false]⟩
  | @names a zs h1 h2 h3 =>
    refine .inr ⟨a, zs.map V.str, zs.map fun _ => true, rfl, h1, by rw [List.length_map]; exact h2, NmbL.ofNames h3, ?_⟩
    rw [nd_strs, List.all_map, show (zs.all (id ∘ fun _ => true)) = true from List.all_eq_true.mpr fun _ _ => rfl, Bool.true_and]
    cases zs <;> rfl
def spUnlike (K : PySem.W.Frag) : Sp := fun vs H Q _ => ∃ (v : V) (b : Bool), vs = [v] ∧ Unl K H v b ∧ ∀ H', Same H H' → Q (.bl b) H'
section
variable {P : Program} {w : World} {K : PySem.W.Frag} {mg : Str → Option Value} {base : Heap}
abbrev sUnlike : Stmt := top 15
theorem scUnlike : FnScope ["value", "name"] ["value"] (defScope sUnlike) := ⟨rfl, rfl, rfl, by decide +kernel, rfl, by decide +kernel, by decide +kernel⟩
theorem ok_unlike {f fN : Addr} {fd fdN : FuncData} (F : FnP K "are_unlike_names" sUnlike f fd) (L : Lib K mg) (LP : LibP mg) (FN : FnP K "is_name" sIsName fN fdN) (gN : mg "is_name" = some (.ref fN)) : FnOk P w K mg base CX0 2 f fd ["value"] (spUnlike K) := by
  have GN : FnOk P w K mg base CX0 1 fN fdN ["value"] (spIsName K) := ok_isName FN L LP
  have bN : Binds K fdN ["value"] [] := FN.bindsN fun _ _ _ _ _ _ us hl => match us, hl with | [_], _ => rfl
  refine okN F scUnlike (fun vs H Q E h => ?_) (fun cdv A outer s H vs Q E hr h => ?_)
  · obtain ⟨_, _, rfl, _⟩ := h
    rfl
  · obtain ⟨v, b, rfl, hv, k⟩ := h
    refine ⟨_, pss_cons (ps_if (PW.pt (pw_or (pt_not (pt_val (pe_callB call_isi (by rfl) LP.isi (by decide +kernel) (pa_cons (pv 0) (pa_cons (pe_bltn (v := .ty "list") (by rfl) LP.list (by decide +kernel) rfl) pa_nil)))))
        (pw_or1 (pt_not (pt_truth (pv 0) (by intro _; rfl)))))) (pss_one (ps_ret pe_bl)) pss_nil)
      (pss_one (ps_ret (pe_and (pe_callB (cr_all rfl) (by rfl) LP.all (by decide +kernel) (pa_cons
          (pe_lc (own := [("name", 1)]) (g := gName 1) (tt := tYes) (te := tCall (spIsName K) [] E0 (tCons (tVar 1) tNil)) rfl scUnlike.nd (pi_list (pv 0))
            (blkOk_by (N := ["value", "name"]) (sc := defScope sUnlike) (by decide +kernel)) (fun _ _ _ _ _ => pg_name (i := 1) scUnlike.nd rfl (Or.inl rfl)) (fun _ _ _ _ _ => pts_nil)
            (fun _ _ _ _ _ => pe_call GN hr (by rfl) gN FN.kp bN .nil pass0 (pa_cons (pv 1) pa_nil))) pa_nil))
        (pe_one (pe_cmpR op_eq (pe_lenStrs rfl (by rfl) L.len (by rfl) LP.set (pv 0)) (pe_callB call_len_seq (by rfl) L.len PySem.boot_len (pa_cons (pv 0) pa_nil)) (nomark _)))))), ?_⟩
    rcases unl_cases hv with ⟨T, ty, n, rfl⟩ | ⟨a, xs, bs, rfl, hH, hl, hb, rfl⟩
    · refine ⟨_, rfl, v, .ty "list", .type T, .type "list", false, rfl, .ty _, ty, kit_ty n, false, rfl, ?_⟩
      exact k H (Same.refl H)
    · refine ⟨_, rfl, .ref a, .ty "list", .type "list", .type "list", true, rfl, .ty _, .base (.lst hH), kit_ty (by decide +kernel), true, rfl, ?_⟩
      refine ⟨_, rfl, !xs.isEmpty, .inl ⟨xs, SqL.of hH, rfl⟩, ?_⟩
      cases xs with
      | nil => exact k H (Same.refl H)
      | cons x0 xs0 =>
        refine ⟨_, rfl, a, rfl, ⟨_, SqL.of hH⟩, fun D hD => lc_list (K := K) (a := a) (xs := x0 :: xs0) (fun i H' => H' D = some (.lst ((bs.take i).map V.bl)) ∧ Same H H') ⟨upd_same, sn hD⟩ (fun i H' _ h => SqL.of (h.2 _ _ hH)) ?_ ?_⟩
        · rintro i y H' hi ⟨q1, q2⟩
          obtain ⟨b1, hb1, nb⟩ := hb.at hi
          refine ⟨rfl, _, rfl, y, b1, rfl, nb.same q2, fun H2 s2 => ⟨_, s2 _ _ q1, ?_, ?_, fun c o e => ?_⟩⟩
          · refine small1000 ?_
            rw [List.length_map]
            have := List.length_take_le' i bs
            have := hb.len
            omega
          · rw [upd_same, List.take_succ, hb1, List.map_append]
            rfl
          · rw [upd_ne (ne_of_none e hD)]
            exact s2 _ _ (q2 _ _ e)
        · rintro H' ⟨q1, q2⟩
          rw [hb.len, List.take_length] at q1
          refine ⟨D, bs, rfl, SqL.of q1, _, rfl, ?_⟩
          cases hall : bs.all id with
          | false =>
            rw [hall] at k
            exact iteF (k H' q2)
          | true =>
            rw [hall] at k
            obtain ⟨zs, ez, hz⟩ := hb.names hall
            have hH' : H' a = some (.lst (zs.map V.str)) := by
              rw [← ez]
              exact q2 _ _ hH
            have lz : zs.length ≤ 100 := by
              rw [ez, List.length_map] at hl
              exact hl
            refine iteT ⟨_, rfl, a, zs, rfl, SqL.of hH', by omega, _, rfl, a, _, rfl, .inl (SqL.of hH'), rfl, ?_⟩
            have e : decide (V.int (cntS zs zs.length) = V.int (((zs.map V.str).length : Nat) : Int)) = ndB (x0 :: xs0) := by
              rw [ez, nd_strs, ← cnt_nodup, List.length_map]
              by_cases q : ((cntS zs zs.length : Int) = (zs.length : Int))
              · rw [decide_eq_true q, q]
                exact decide_eq_true rfl
              · rw [decide_eq_false q]
                exact decide_eq_false fun z => q (V.int.inj z)
            show Q (.bl (decide (V.int (cntS zs zs.length) = V.int (((zs.map V.str).length : Nat) : Int)))) H'
            rw [e]
            exact k H' q2
end
end G14

set_option maxHeartbeats 4000000
/-! Equality of things of all kinds, deep, the very same objects too. -/
namespace PySem.SeqAt
open AutoSeq1 (wpAny_loadPart')
open MeetsSeq
theorem g_dict_no_str (b : Str) (u : Tok) (l : Addr) (es : Array DictEntry) (n : Nat) (dd : Option Addr) (sl : Array (Option Value)) :
    Meets (Builtin.«dict.__eq__» ⟨[.ref l, .str b u], []⟩) (fun _ R s => s.heap.get? l = some { cls := .type "dict", dict := dd, data := .dict es n, slots := sl } ∧ R (.ok (.ret .notImplemented)) s) :=
  .of_wp fun prog w A R s h => by
    obtain ⟨hp, g, d, tk, os⟩ := s
    obtain ⟨hl, h⟩ := h
    have f1 := F.sub_str_dict
    wp_walk using wpAny_loadPart' hl, wpAny_load hl
    exact ⟨_, rfl, h⟩
theorem g_str_no_dict (b : Str) (u : Tok) (l : Addr) (es : Array DictEntry) (n : Nat) (dd : Option Addr) (sl : Array (Option Value)) :
    Meets (Builtin.«str.__eq__» ⟨[.str b u, .ref l], []⟩) (fun _ R s => s.heap.get? l = some { cls := .type "dict", dict := dd, data := .dict es n, slots := sl } ∧ R (.ok (.ret .notImplemented)) s) :=
  .of_wp fun prog w A R s h => by
    obtain ⟨hp, g, d, tk, os⟩ := s
    obtain ⟨hl, h⟩ := h
    wp_walk using wpAny_loadPart' hl, wpAny_load hl
    exact ⟨_, rfl, h⟩
section
variable {A : Around} {s : Shared} {l : Addr} {es : Array DictEntry} {n : Nat} {dd : Option Addr} {sl : Array (Option Value)}
theorem g_str_dict (b : Str) (u : Tok) (ho : s.heap.get? l = some { cls := .type "dict", dict := dd, data := .dict es n, slots := sl }) (hu : A.units < cLine) : EqAt A s (.str b u) (.ref l) false := fun prog w E Q h => by
  unfold eqBool
  refine wpAny_holding (wpAny_ite_split (fun q => absurd (eq_of_beq q) nofun) fun _ => wpAny_bind ?_)
  exact rc_eq_decline_or (k := false) (typeIs_str s b u) ⟨_, ho, rfl⟩ (by decide) F.sub_dict_str F.slot_str_eq F.slot_dict_eq_refl
    (fun _ q => call_meets F.slot_str_eq (typeIs_str s b u) F.entry_str_eq (F.args_str_eq_2 _ _) (g_str_no_dict b u l es n dd sl) ⟨ho, q⟩)
    (fun _ q => call_meets F.slot_dict_eq_refl ⟨_, ho, rfl⟩ F.entry_dict_eq (F.args_dict_eq_2 _ _) (g_dict_no_str b u l es n dd sl) ⟨ho, q⟩)
    (fun _ q => wpAny_of_eq (rfl : isSame (.str b u) (.ref l) = pure false) q) (.inr hu) (wpAny_truthy_bool h)
end
end PySem.SeqAt

set_option maxHeartbeats 4000000
namespace G1
open PySem PySem.Spec PyProof.Rows L2
/-- whether two things are equal, at most n deep (of things that stand in lists: the very same thing is equal to itself) -/
inductive EqW (K : PySem.W.Frag) (H : Hp) : Nat → V → V → Bool → Prop
  | flat {n : Nat} {x y : V} : flatV x = true → flatV y = true → EqW K H n x y (eqV x y)
  | same {n : Nat} {a : Addr} : EqW K H n (.ref a) (.ref a) true
  | lists {n : Nat} {a b : Addr} {xs ys : List V} {f : Nat → Bool} : a ≠ b → SqL K H a xs → SqL K H b ys → xs.length = ys.length → (∀ i x y, xs[i]? = some x → ys[i]? = some y → EqW K H n x y (f i)) →
      EqW K H (n + 1) (.ref a) (.ref b) ((List.range xs.length).all f)
  | lens {n : Nat} {a b : Addr} {xs ys : List V} : a ≠ b → SqL K H a xs → SqL K H b ys → xs.length ≠ ys.length → EqW K H (n + 1) (.ref a) (.ref b) false
  | strList {n : Nat} {z : Str} {b : Addr} {ys : List V} : SqL K H b ys → EqW K H (n + 1) (.str z) (.ref b) false
  | strTup {n : Nat} {z : Str} {b : Addr} {ys : List V} : SqT K H b ys → EqW K H (n + 1) (.str z) (.ref b) false
  | strDict {n : Nat} {z : Str} {b : Addr} {kvs : List (Key × V)} : H b = some (.dK kvs) → EqW K H (n + 1) (.str z) (.ref b) false
section
variable {X : Cx} {pins : List (Addr × Obj)} {σ : L2.St} {H : Hp} {s : Shared}
theorem vals_at : ∀ {xs : List V} {us : List Value} {i : Nat} {u : Value}, Vals xs us → us[i]? = some u → ∃ x, xs[i]? = some x ∧ RelV x u
  | _, _, i, _, .nil, h => by simp at h
  | x :: xs, u :: us, 0, _, .cons r t, h => by
    cases h
    exact ⟨x, rfl, r⟩
  | x :: xs, u :: us, i + 1, _, .cons r t, h => vals_at (xs := xs) (us := us) (i := i) t h
theorem EqW.at {n : Nat} {x y : V} {b : Bool} (h : EqW X.K H n x y b) (I : Inv X pins σ H s) : ∀ {A : Around} {u v : Value}, A.units + n < cLine → RelV x u → RelV y v → SeqAt.EqAt A s u v b := by
  induction h with
  | flat fx fy =>
    intro A u v _ rx ry
    exact eqAt_V rx ry fx fy
  | same =>
    intro A u v _ rx ry
    cases rx
    cases ry
    exact SeqAt.EqAt.same _
  | @lists n a b xs ys f ne ha hb len hf ih =>
    intro A u v hu rx ry
    cases rx
    cases ry
    obtain ⟨is, r1, p1, _⟩ := I.list ha
    obtain ⟨js, r2, p2, _⟩ := I.list hb
    have e1 := r1.length
    have e2 := r2.length
    have q := SeqAt.RcAt.lists (A := A) (s := s) (e := f) p1.isList p2.isList (by simp only [List.size_toArray]; omega) (by omega) fun j h1 h2 => by
      have g1 : is[j]? = some (is.toArray[j]'h1) := by simp
      have g2 : js[j]? = some (js.toArray[j]'h2) := by simp
      obtain ⟨x1, hx1, rx1⟩ := vals_at r1 g1
      obtain ⟨y1, hy1, ry1⟩ := vals_at r2 g2
      exact ih j x1 y1 hx1 hy1 (A := A.in1) (by have := units_in1 A; omega) rx1 ry1
    rw [List.size_toArray, ← e1] at q
    exact SeqAt.EqAt.of_refs ne q
  | @lens n a b xs ys ne ha hb len =>
    intro A u v hu rx ry
    cases rx
    cases ry
    obtain ⟨is, r1, p1, _⟩ := I.list ha
    obtain ⟨js, r2, p2, _⟩ := I.list hb
    have e1 := r1.length
    have e2 := r2.length
    exact SeqAt.EqAt.of_refs ne (SeqAt.RcAt.lists_lengths p1.isList p2.isList (by simp only [List.size_toArray, bne_iff_ne]; omega) (by omega))
  | @strList n z b ys hb =>
    intro A u v hu rx ry
    obtain ⟨t, rfl⟩ := rx
    cases ry
    obtain ⟨js, _, p2, _⟩ := I.list hb
    exact SeqAt.EqAt.str_list z t p2.isList (by omega)
  | @strTup n z b ys hb =>
    intro A u v hu rx ry
    obtain ⟨t, rfl⟩ := rx
    cases ry
    obtain ⟨js, _, p2, _⟩ := I.tuple hb
    exact SeqAt.EqAt.str_tuple z t p2 (by omega)
  | @strDict n z b kvs hb =>
    intro A u v hu rx ry
    obtain ⟨t, rfl⟩ := rx
    cases ry
    obtain ⟨_, _, vs, _, o, es, ep, ho, hx, hd, _⟩ := (show ObjOk X.prog X.w H s.heap b (.dK kvs) from I.hok b _ hb)
    obtain ⟨oc, od, dt, os⟩ := o
    dsimp only at hd
    subst hd
    obtain ⟨hc, _⟩ := hx
    dsimp only at hc
    subst hc
    exact SeqAt.g_str_dict z t ho (by omega)
end
end G1

set_option maxHeartbeats 4000000
namespace G1
open PySem PySem.Spec PyProof.Rows L2
/-- two lists, equal or not, their items at most n deep -/
def Lists2 (K : PySem.W.Frag) (H : Hp) (n : Nat) (x y : V) (b : Bool) : Prop := ∃ (a c : Addr) (xs ys : List V), x = .ref a ∧ y = .ref c ∧ SqL K H a xs ∧ SqL K H c ys ∧
  ((xs.length ≠ ys.length ∧ b = false) ∨ (xs.length = ys.length ∧ ∃ f : Nat → Bool, (∀ i x y, xs[i]? = some x → ys[i]? = some y → EqW K H n x y (f i)) ∧ b = (List.range xs.length).all f))
def rEqW (K : PySem.W.Frag) (n : Nat) : R2 := fun x y H Q => ∃ b, Lists2 K H n x y b ∧ Q (.bl b) H
def rNeW (K : PySem.W.Frag) (n : Nat) : R2 := fun x y H Q => ∃ b, Lists2 K H n x y b ∧ Q (.bl (!b)) H
section
variable {X : Cx} {n : Nat}
theorem items_at {pins : List (Addr × Obj)} {σ : L2.St} {H : Hp} {s : Shared} {xs ys : List V} {is js : List Value} {f : Nat → Bool} (I : Inv X pins σ H s) (r1 : Vals xs is) (r2 : Vals ys js) (hf : ∀ i x y, xs[i]? = some x → ys[i]? = some y → EqW X.K H n x y (f i)) {A : Around} (hu : A.units + n < cLine) :
    ∀ j (h1 : j < is.toArray.size) (h2 : j < js.toArray.size), SeqAt.EqAt A s is.toArray[j] js.toArray[j] (f j) := fun j h1 h2 => by
  have g1 : is[j]? = some (is.toArray[j]'h1) := by simp
  have g2 : js[j]? = some (js.toArray[j]'h2) := by simp
  obtain ⟨x1, hx1, rx1⟩ := vals_at r1 g1
  obtain ⟨y1, hy1, ry1⟩ := vals_at r2 g2
  exact (hf j x1 y1 hx1 hy1).at I hu rx1 ry1
theorem op_eqW (hu : X.A.units + (n + 1) < cLine) : OpR X (compareOp .Eq) (rEqW X.K n) := by
  intro pins s σ H x y v u Q I rx ry h
  obtain ⟨b, ⟨a, c, xs, ys, rfl, rfl, ha, hc, h⟩, q⟩ := h
  cases rx
  cases ry
  obtain ⟨is, r1, p1, _⟩ := I.list ha
  obtain ⟨js, r2, p2, _⟩ := I.list hc
  have e1 := r1.length
  have e2 := r2.length
  rcases h with ⟨ne, rfl⟩ | ⟨len, f, hf, rfl⟩
  · exact SeqAt.RcAt.lists_lengths p1.isList p2.isList (by simp only [List.size_toArray, bne_iff_ne]; omega) (by omega) _ _ _ _ ⟨.bl false, H, I, rfl, q⟩
  · have z := SeqAt.RcAt.lists (A := X.A) p1.isList p2.isList (e := f) (by simp only [List.size_toArray]; omega) (by omega) (items_at I r1 r2 hf (by have := units_in1 X.A; omega))
    rw [List.size_toArray, ← e1] at z
    exact z _ _ _ _ ⟨.bl _, H, I, rfl, q⟩
theorem op_neW (hu : X.A.units + (n + 1) < cLine) : OpR X (compareOp .NotEq) (rNeW X.K n) := by
  intro pins s σ H x y v u Q I rx ry h
  obtain ⟨b, ⟨a, c, xs, ys, rfl, rfl, ha, hc, h⟩, q⟩ := h
  cases rx
  cases ry
  obtain ⟨is, r1, p1, _⟩ := I.list ha
  obtain ⟨js, r2, p2, _⟩ := I.list hc
  have e1 := r1.length
  have e2 := r2.length
  rcases h with ⟨ne, rfl⟩ | ⟨len, f, hf, rfl⟩
  · exact SeqAt.RcNeAt.lists_lengths p1.isList p2.isList (by simp only [List.size_toArray, bne_iff_ne]; omega) (by omega) _ _ _ _ ⟨.bl true, H, I, rfl, q⟩
  · have z := SeqAt.RcNeAt.lists (A := X.A) p1.isList p2.isList (e := f) (by simp only [List.size_toArray]; omega) (by omega) (items_at I r1 r2 hf (by have := units_in1 X.A; omega))
    rw [List.size_toArray, ← e1] at z
    exact z _ _ _ _ ⟨.bl _, H, I, rfl, q⟩
/-- x in a list of texts, x of any kind -/
def rInW (K : PySem.W.Frag) (n : Nat) : R2 := fun x y H Q => ∃ (p : Addr) (zs : List Str) (f : Str → Bool), y = .ref p ∧ SqL K H p (zs.map V.str) ∧ (∀ z ∈ zs, EqW K H n (.str z) x (f z)) ∧ Q (.bl (zs.any f)) H
def itemS (f : Str → Bool) : Value → Bool
  | .str z _ => f z
  | _ => false
theorem any_itemS {f : Str → Bool} : ∀ {zs : List Str} {us : List Value}, Vals (zs.map V.str) us → us.any (itemS f) = zs.any f
  | [], _, .nil => rfl
  | z :: zs, u :: us, .cons r t => by
    obtain ⟨k, rfl⟩ := r
    rw [List.any_cons, List.any_cons, any_itemS t]
    rfl
theorem op_inW (hu : X.A.units + (n + 1) < cLine) : OpR X (compareOp .In) (rInW X.K n) := by
  intro pins s σ H x y v u Q I rx ry h
  obtain ⟨p, zs, f, rfl, hp, hf, q⟩ := h
  cases ry
  obtain ⟨is, r1, p1, _⟩ := I.list hp
  refine SeqAt.in_listAt (itemS f) p1.isList (fun w hw => ?_) ⟨.bl _, H, I, rfl, ?_⟩
  · obtain ⟨i, hi, e⟩ := List.mem_iff_getElem.mp (show w ∈ is by simpa using hw)
    obtain ⟨x1, hx1, rx1⟩ := vals_at r1 (i := i) (u := w) (by rw [← e]; exact List.getElem?_eq_getElem hi)
    rw [List.getElem?_map] at hx1
    obtain ⟨z, hz, rfl⟩ := Option.map_eq_some_iff.mp hx1
    have q1 := (hf z (List.mem_of_getElem? hz)).at I (A := X.A.in1) (by have := units_in1 X.A; omega) rx1 rx
    obtain ⟨k, rfl⟩ := rx1
    exact q1
  · rw [show is.toArray.any (itemS f) = is.any (itemS f) by simp, any_itemS r1]
    exact q
end
end G1

set_option maxHeartbeats 4000000
/-! x == y by an own __eq__, whatever it answers. -/
namespace G1
open PySem PySem.Spec PyProof.Rows L2
/-- the types that are told here -/
inductive TyE (H : Hp) : V → Value → Prop
  | non : TyE H .non (.type "NoneType")
  | bl (x : Bool) : TyE H (.bl x) (.type "bool")
  | int (i : Int) : TyE H (.int i) (.type "int")
  | str (z : Str) : TyE H (.str z) (.type "str")
  | lst {a : Addr} {xs : List V} : H a = some (.lst xs) → TyE H (.ref a) (.type "list")
  | tup {a : Addr} {xs : List V} : H a = some (.tup xs) → TyE H (.ref a) (.type "tuple")
  | dK {a : Addr} {kvs : List (Key × V)} : H a = some (.dK kvs) → TyE H (.ref a) (.type "dict")
  | ins {a C dx : Addr} {fs : List (Str × V)} : H a = some (.ins C dx fs) → TyE H (.ref a) (.ref C)
theorem TyE.same {H H' : Hp} {x : V} {t : Value} (h : TyE H x t) (s : Same H H') : TyE H' x t := by
  cases h with
  | non => exact .non
  | bl x => exact .bl x
  | int x => exact .int x
  | str x => exact .str x
  | lst e => exact .lst (s _ _ e)
  | tup e => exact .tup (s _ _ e)
  | dK e => exact .dK (s _ _ e)
  | ins e => exact .ins (s _ _ e)
section
variable {X : Cx} {pins : List (Addr × Obj)} {σ : L2.St} {H : Hp} {s : Shared}
theorem looks_ref {M : Model} {h : Heap} {a : Addr} {o : Obj} {t : Value} (e : h.get? a = some o) (c : o.cls = t) : PySem.W.Looks M h (typeOf (.ref a)) t := c ▸ (PySem.W.Looks.ld e).andThen .now
theorem looks_ty {x : V} {u t : Value} {M : Model} (I : Inv X pins σ H s) (rx : RelV x u) (ty : TyE H x t) : PySem.W.Looks M s.heap (typeOf u) t := by
  cases ty with
  | non =>
    cases rx
    exact PySem.W.Looks.now
  | bl x =>
    cases rx
    exact PySem.W.Looks.now
  | int i =>
    obtain ⟨k, rfl⟩ := rx
    exact PySem.W.Looks.now
  | str i =>
    obtain ⟨k, rfl⟩ := rx
    exact PySem.W.Looks.now
  | lst e =>
    cases rx
    obtain ⟨_, _, p, _⟩ := I.list (SqL.of (K := X.K) e)
    obtain ⟨o, ho, hc, _⟩ := p.isList
    exact looks_ref ho hc
  | tup e =>
    cases rx
    obtain ⟨_, _, p, _⟩ := I.tuple (SqT.of (K := X.K) e)
    obtain ⟨o, ho, hc, _⟩ := p
    exact looks_ref ho hc
  | dK e =>
    cases rx
    obtain ⟨_, _, vs, _, o, es, ep, ho, hx, _⟩ := (show ObjOk X.prog X.w H s.heap _ (.dK _) from I.hok _ _ e)
    exact looks_ref ho hx.1
  | ins e =>
    cases rx
    obtain ⟨mA, J, _⟩ := ins_get I.hok e
    obtain ⟨od, J, _⟩ := J.look
    exact J.type
/-- what an own __eq__ promises -/
def spEqB (D : V → V → Hp → Bool → Prop) : Sp := fun vs H Q _ => ∃ (x y : V) (b : Bool), vs = [x, y] ∧ D x y H b ∧ ∀ H', Same H H' → Q (.bl b) H'
def rEqO (K : PySem.W.Frag) (C : Addr) (D : V → V → Hp → Bool → Prop) : R2 := fun x y H Q => ∃ (a dx : Addr) (fs : List (Str × V)) (t : Value) (b : Bool), x = .ref a ∧ H a = some (.ins C dx fs) ∧ TyE H y t ∧ PySem.W.notFirst K C t = true ∧ D x y H b ∧ ∀ H', Same H H' → Q (.bl b) H'
theorem op_eqOwn {C f : Addr} {fd : FuncData} {ps : List Str} {k : Nat} {D : V → V → Hp → Bool → Prop} (F : FnOk X.prog X.w X.K X.mg X.base CX0 k f fd ps (spEqB D)) (hr : Room k X.A)
    (hs : PySem.W.findIn X.K (.ref C) "__eq__" = some (some (.ref f))) (hf : PySem.W.isFn X.K (.ref f) = true) (hb : Binds X.K fd ps []) : OpR X (compareOp .Eq) (rEqO X.K C D) := by
  intro pins s σ H x y v u Q I rx ry h
  obtain ⟨a, dx, fs, t, b, rfl, ha, ty, nf, hD, q⟩ := h
  cases rx
  obtain ⟨mA, J, _⟩ := ins_get I.hok ha
  obtain ⟨od, J, _⟩ := J.look
  obtain ⟨m, hF⟩ := I.fr
  refine PySem.W.cmp_K (op := .Eq) (tb := t) hr.units0 hF I.ok.mod.kin J (looks_ty I ry ty) nf hs hf ?_
  have r2 : Vals [V.ref a, y] [Value.ref a, u] := .cons rfl (.cons ry .nil)
  have sp : spEqB D ([V.ref a, y] ++ []) H (fun v H' => v = .bl b ∧ Same H H') E0 := ⟨.ref a, y, b, rfl, hD, fun H' s' => ⟨rfl, s'⟩⟩
  have len := F.len _ _ _ _ sp
  refine wpAny_call (codeAny_mono (F.run X.A X.stack s H ⟨[.ref a, u], []⟩ [.ref a, u] [V.ref a, y] _ E0 hr I.env0 (by
    have z := hb s [.ref a, u] I.kIn (by simpa using len)
    simpa using z) r2 sp) fun r s' hq => ?_)
  match r, hq with
  | .error e, hq => exact pass0 (X := X) pins σ H s e s' I hq
  | .ok (.ret w), hq =>
    obtain ⟨z, H', I', rz, ez, ex⟩ := I.after hq
    subst ez
    cases rz
    exact ⟨.bl b, H', I', rfl, q H' ex⟩
end
end G1

set_option maxHeartbeats 4000000
/-! x != y by an own __eq__. -/
namespace G1
open PySem PySem.W PySem.Calls PyProof.Rows
theorem slot_one : Slot "object" "__ne__" "object.__ne__" :=
  Slot.of (T := "object") (name := "__ne__") (owner := "object") (n := "__ne__") (by rw [typeLookup_type, builtinLookup_eq_fast]; kernel_rfl) (by decide +kernel) (by decide +kernel) (by decide +kernel) (.inl (by decide +kernel)) (by rw [isSubtype_type]; kernel_rfl)
section
variable {prog : Program} {w : World} {A : Around} {E : Value → Shared → Prop} {s : Shared} {K : Frag} {x C L f : Addr} {h₀ : Heap} {m : Str → Option Value} {ox : Obj} {od : Option Obj} {b tb : Value}
theorem ifBound_ne {M : Model} {args : List Value} {Q : Option Value → Shared → Prop} (X : K.In s.heap) (I : InstAt s.heap x ox C od) (hs : findIn K (.ref C) "__ne__" = some (some (.builtin "object.__ne__")))
    (h : wpAny M A (call (.builtin "object.__ne__") (.ref x :: args)) (fun v => Q (some v)) E s) : wpAny M A (callSpecialIfBound? (.ref x) "__ne__" args) Q E s := by
  simp only [callSpecialIfBound?, bindSpecialIfBound?]
  have fin : wpAny M A (call (.builtin "object.__ne__") ([.ref x] ++ args) >>= fun v => pure (some v)) Q E s := wpAny_bind (wpAny_mono h (fun v s' q => wpAny_pure q) fun _ _ q => q)
  refine wpAny_holding (wpAny_bind (wpAny_bind (wpAny_bind (I.type.here ((looks_findIn X hs).here ?_)))))
  simp only [slot_one.bind]
  refine wpAny_bind (wpAny_askSetting (wpAny_ite ?_))
  split
  · exact wpAny_bind (wpAny_pure (wpAny_pure fin))
  · exact wpAny_tryCatch (wpAny_bind (wpAny_pure (wpAny_pure fin)))
theorem check_ne {M : Model} {Q : Unit → Shared → Prop} (X : K.In s.heap) (I : InstAt s.heap x ox C od) (ho : subIn K (.ref C) (.type "object") = some true) (q : Q () s) :
    wpAny M A (checkBuiltinCall "object.__ne__" ⟨[.ref x, b], []⟩) Q E s := by
  simp only [checkBuiltinCall, PySem.F.cmpKind_ne, PySem.F.cmpSplit_ne]
  refine wpAny_bind ?_
  · unfold isInstance
    refine wpAny_bind (I.type.here ((looks_subIn X ho).here ?_))
    have ha : argsOk "object.__ne__" ⟨[.ref x, b], []⟩ := PySem.F.cmpArgs_ne _ _
    simp only [Bool.not_true, Bool.false_eq_true, if_false]
    cases hsig : Manifest.signature? "object.__ne__" with
    | none => exact wpAny_pure q
    | some sig =>
      simp only [argsOk, hsig] at ha
      have e : Bind.checkArgs "object.__ne__" sig ⟨[.ref x, b], []⟩ = pure () := ha
      show wpAny M A (Bind.checkArgs "object.__ne__" sig ⟨[.ref x, b], []⟩) Q E _
      rw [e]
      exact wpAny_pure q
theorem entry_ne (X : K.In s.heap) (I : InstAt s.heap x ox C od) (hs : findIn K (.ref C) "__eq__" = some (some (.ref f))) (hf : isFn K (.ref f) = true) (hu : A.units < cLine) {Q : Fin → Shared → Prop}
    (h : wpAny (model prog w) A (call (.ref f) [.ref x, b]) (fun v s' => ∃ c, v = .bool c ∧ Q (.done (.ret (.bool (!c)))) s') E s) : wpAny (model prog w) A (Builtin.«object.__ne__» ⟨[.ref x, b], []⟩) Q E s := by
  unfold Builtin.«object.__ne__»
  repeat (first
    | with_reducible refine wpAny_cRoomFor hu ?_
    | (refine wpAny_bind (m := callSpecialIfBound? (.ref x) (Str.ofString "__eq__") [b]) (ifBound_K X I hs hf (wpAny_mono h (fun r s' hr => by
        obtain ⟨c, rfl, hq⟩ := hr
        repeat (first | exact hq | exact wpAny_pure hq | exact wpAny_truthy_bool hq | (refine wpAny_bind (m := truthy (.bool _)) (wpAny_truthy_bool ?_)) | wp_step)) fun _ _ e => e)))
    | wp_step)
theorem ne_K {Q : Value → Shared → Prop} (hu : A.units + 1 < cLine) (F : Fr h₀ L s.heap m) (X₀ : K.In h₀) (I : InstAt s.heap x ox C od) (hb : Looks (model prog w) s.heap (typeOf b) tb) (hn : notFirst K C tb = true)
    (hne : findIn K (.ref C) "__ne__" = some (some (.builtin "object.__ne__"))) (ho : subIn K (.ref C) (.type "object") = some true) (hs : findIn K (.ref C) "__eq__" = some (some (.ref f))) (hf : isFn K (.ref f) = true)
    (h : wpAny (model prog w) A.in1 (call (.ref f) [.ref x, b]) (fun v s' => ∃ c, v = .bool c ∧ Q (.bool (!c)) s') E s) : wpAny (model prog w) A (richCompare .NotEq (.ref x) b) Q E s := by
  have X := X₀.keeps F.keep
  have one : wpAny (model prog w) A (tryCompare (.ref x) "__ne__" b) (fun r s' => ∃ v, r = some v ∧ Q v s') E s := by
    simp only [tryCompare]
    refine wpAny_bind (ifBound_ne X I hne (wpAny_call (codeAny_call_builtin slot_one.plain PySem.F.cmpEntry_ne (check_ne X I ho (entry_ne X I hs hf hu (wpAny_mono h (fun v s' hv => ?_) fun _ _ e => e))))))
    obtain ⟨c, rfl, hq⟩ := hv
    exact ⟨c, rfl, wpAny_pure ⟨_, rfl, hq⟩⟩
  unfold richCompare
  simp only [oneThing_ref]
  refine wpAny_holding (wpAny_bind (wpAny_cRoomFor (Nat.lt_of_succ_lt hu) ?_))
  rw [cmpInfo_NotEq]
  dsimp only
  refine wpAny_bind (I.type.here (wpAny_bind (hb.here ?_)))
  by_cases q : (Value.ref C != tb) = true
  · have e : subIn K tb (.ref C) = some false := by
      rcases Bool.or_eq_true_iff.mp hn with e | e
      · rw [beq_iff_eq.mp e] at q
        simp at q
      · exact beq_iff_eq.mp e
    rw [if_pos q]
    refine wpAny_bind ((looks_subIn X e).here ?_)
    simp only [Bool.false_eq_true, if_false]
    refine wpAny_bind (wpAny_mono one (fun r s' z => ?_) fun _ _ e => e)
    obtain ⟨v, rfl, hq⟩ := z
    exact wpAny_pure hq
  · rw [if_neg q]
    refine wpAny_bind (wpAny_pure ?_)
    simp only [Bool.false_eq_true, if_false]
    refine wpAny_bind (wpAny_mono one (fun r s' z => ?_) fun _ _ e => e)
    obtain ⟨v, rfl, hq⟩ := z
    exact wpAny_pure hq
end
end G1
namespace G1
open PySem PySem.Spec PyProof.Rows L2
section
variable {X : Cx} {pins : List (Addr × Obj)} {σ : L2.St} {H : Hp} {s : Shared}
def rNeO (K : PySem.W.Frag) (C : Addr) (D : V → V → Hp → Bool → Prop) : R2 := fun x y H Q => ∃ (a dx : Addr) (fs : List (Str × V)) (t : Value) (b : Bool), x = .ref a ∧ H a = some (.ins C dx fs) ∧ TyE H y t ∧ PySem.W.notFirst K C t = true ∧ D x y H b ∧ ∀ H', Same H H' → Q (.bl (!b)) H'
theorem op_neOwn {C f : Addr} {fd : FuncData} {ps : List Str} {k : Nat} {D : V → V → Hp → Bool → Prop} (F : FnOk X.prog X.w X.K X.mg X.base CX0 k f fd ps (spEqB D)) (hr : Room (k + 1) X.A)
    (hne : PySem.W.findIn X.K (.ref C) "__ne__" = some (some (.builtin "object.__ne__"))) (ho : PySem.W.subIn X.K (.ref C) (.type "object") = some true)
    (hs : PySem.W.findIn X.K (.ref C) "__eq__" = some (some (.ref f))) (hf : PySem.W.isFn X.K (.ref f) = true) (hb : Binds X.K fd ps []) : OpR X (compareOp .NotEq) (rNeO X.K C D) := by
  intro pins s σ H x y v u Q I rx ry h
  obtain ⟨a, dx, fs, t, b, rfl, ha, ty, nf, hD, q⟩ := h
  cases rx
  obtain ⟨mA, J, _⟩ := ins_get I.hok ha
  obtain ⟨od, J, _⟩ := J.look
  obtain ⟨m, hF⟩ := I.fr
  have hr1 : Room k X.A.in1 := hr.in1
  refine ne_K (tb := t) hr1.units0 hF I.ok.mod.kin J (looks_ty I ry ty) nf hne ho hs hf ?_
  have r2 : Vals [V.ref a, y] [Value.ref a, u] := .cons rfl (.cons ry .nil)
  have sp : spEqB D ([V.ref a, y] ++ []) H (fun v H' => v = .bl b ∧ Same H H') E0 := ⟨.ref a, y, b, rfl, hD, fun H' s' => ⟨rfl, s'⟩⟩
  have len := F.len _ _ _ _ sp
  have e0 : Env0 X.prog X.w X.K X.mg X.base X.A.in1 X.stack s H := by
    have e := I.env0
    exact ⟨e.frames, e.mod, e.bs, e.bsz, e.funs, e.frf, e.hok, e.bare⟩
  refine wpAny_call (codeAny_mono (F.run X.A.in1 X.stack s H ⟨[.ref a, u], []⟩ [.ref a, u] [V.ref a, y] _ E0 hr1 e0 (by
    have z := hb s [.ref a, u] I.kIn (by simpa using len)
    simpa using z) r2 sp) fun r s' hq => ?_)
  match r, hq with
  | .error e, hq => exact pass0 (X := X) pins σ H s e s' I hq
  | .ok (.ret w), hq =>
    obtain ⟨z, H', I', rz, ez, ex⟩ := I.after hq
    subst ez
    cases rz
    exact ⟨b, rfl, .bl (!b), H', I', rfl, q H' ex⟩
end
end G1

set_option maxHeartbeats 4000000
namespace G1
open PySem PySem.Spec PyProof.Rows L2
theorem all_range_eq {α : Type} [DecidableEq α] {xs ys : List α} (l : xs.length = ys.length) : ((List.range xs.length).all fun i => decide (xs[i]? = ys[i]?)) = decide (xs = ys) := by
  by_cases h : xs = ys
  · subst h
    rw [decide_eq_true rfl]
    exact List.all_eq_true.mpr fun i _ => decide_eq_true rfl
  · rw [decide_eq_false h, Bool.eq_false_iff]
    intro q
    refine h (List.ext_getElem? fun i => ?_)
    by_cases lt : i < xs.length
    · exact of_decide_eq_true (List.all_eq_true.mp q i (List.mem_range.mpr lt))
    · rw [List.getElem?_eq_none (by omega), List.getElem?_eq_none (by omega)]
/-- lists of texts -/
theorem lists_strs {K : PySem.W.Frag} {H : Hp} {a c : Addr} {xs ys : List Str} (ha : SqL K H a (xs.map V.str)) (hc : SqL K H c (ys.map V.str)) : Lists2 K H 0 (.ref a) (.ref c) (decide (xs = ys)) := by
  refine ⟨a, c, _, _, rfl, rfl, ha, hc, ?_⟩
  by_cases l : xs.length = ys.length
  · refine .inr ⟨by rw [List.length_map, List.length_map, l], fun i => decide (xs[i]? = ys[i]?), fun i x y hx hy => ?_, by rw [List.length_map, all_range_eq l]⟩
    rw [List.getElem?_map] at hx hy
    obtain ⟨z, hz, rfl⟩ := Option.map_eq_some_iff.mp hx
    obtain ⟨z2, hz2, rfl⟩ := Option.map_eq_some_iff.mp hy
    have e : eqV (.str z) (.str z2) = decide (xs[i]? = ys[i]?) := by
      rw [hz, hz2]
      show (z == z2) = _
      by_cases q : z = z2
      · simp [q]
      · rw [beq_eq_false_iff_ne.mpr q, decide_eq_false (fun w => q (Option.some.inj w))]
    show EqW K H 0 (.str z) (.str z2) (decide (xs[i]? = ys[i]?))
    rw [← e]
    exact .flat rfl rfl
  · exact .inl ⟨by rw [List.length_map, List.length_map]; exact l, decide_eq_false fun e => l (by rw [e])⟩
end G1

set_option maxHeartbeats 8000000
namespace G14
open PySem PySem.Spec PyProof.Rows L2 G1
/-- what may stand in a row: a text, or something that is none -/
inductive RIt (K : PySem.W.Frag) (H : Hp) : V → Option Str → Prop
  | str (z : Str) : RIt K H (.str z) (some z)
  | non : RIt K H .non none
  | bl (b : Bool) : RIt K H (.bl b) none
  | int (i : Int) : RIt K H (.int i) none
  | lst {a : Addr} {ys : List V} : H a = some (.lst ys) → RIt K H (.ref a) none
  | tup {a : Addr} {ys : List V} : H a = some (.tup ys) → RIt K H (.ref a) none
  | dK {a : Addr} {kvs : List (Key × V)} : H a = some (.dK kvs) → RIt K H (.ref a) none
theorem RIt.same {K : PySem.W.Frag} {H H' : Hp} {v : V} {o : Option Str} (h : RIt K H v o) (s : Same H H') : RIt K H' v o := by
  cases h with
  | str z => exact .str z
  | non => exact .non
  | bl b => exact .bl b
  | int i => exact .int i
  | lst e => exact .lst (s _ _ e)
  | tup e => exact .tup (s _ _ e)
  | dK e => exact .dK (s _ _ e)
theorem RIt.ty {K : PySem.W.Frag} {H : Hp} {v : V} {o : Option Str} (h : RIt K H v o) : ∃ T : String, TyX K H v (.type T) ∧ kitB T "str" = some o.isSome := by
  cases h with
  | str z => exact ⟨"str", .base (.str z), show kitB "str" "str" = some true by decide +kernel⟩
  | non => exact ⟨"NoneType", .base .non, by decide +kernel⟩
  | bl b => exact ⟨"bool", .base (.bl b), by decide +kernel⟩
  | int i => exact ⟨"int", .base (.int i), by decide +kernel⟩
  | lst e => exact ⟨"list", .base (.lst e), by decide +kernel⟩
  | tup e => exact ⟨"tuple", .base (.tup e), by decide +kernel⟩
  | dK e => exact ⟨"dict", .base (.dK e), by decide +kernel⟩
inductive RItL (K : PySem.W.Frag) (H : Hp) : List V → List (Option Str) → Prop
  | nil : RItL K H [] []
  | cons {v : V} {o : Option Str} {vs : List V} {os : List (Option Str)} : RIt K H v o → RItL K H vs os → RItL K H (v :: vs) (o :: os)
theorem RItL.len {K : PySem.W.Frag} {H : Hp} {vs : List V} {os : List (Option Str)} (h : RItL K H vs os) : vs.length = os.length := by
  induction h with
  | nil => rfl
  | cons _ _ ih => rw [List.length_cons, List.length_cons, ih]
theorem RItL.same {K : PySem.W.Frag} {H H' : Hp} {vs : List V} {os : List (Option Str)} (h : RItL K H vs os) (s : Same H H') : RItL K H' vs os := by
  induction h with
  | nil => exact .nil
  | cons e _ ih => exact .cons (e.same s) ih
theorem RItL.at {K : PySem.W.Frag} {H : Hp} {vs : List V} {os : List (Option Str)} (h : RItL K H vs os) : ∀ {i : Nat} {v : V}, vs[i]? = some v → ∃ o, os[i]? = some o ∧ RIt K H v o := by
  induction h with
  | nil => intro i v e; cases e
  | @cons v0 o0 vs os h0 _ ih =>
    intro i v e
    match i, e with
    | 0, e =>
      cases e
      exact ⟨o0, rfl, h0⟩
    | i + 1, e => exact ih e
theorem RItL.strs {K : PySem.W.Frag} {H : Hp} {vs : List V} {os : List (Option Str)} (h : RItL K H vs os) (a : os.all Option.isSome = true) : ∃ zs : List Str, vs = zs.map V.str := by
  induction h with
  | nil => exact ⟨[], rfl⟩
  | cons h0 _ ih =>
    rw [List.all_cons] at a
    obtain ⟨a1, a2⟩ := He.ba a
    obtain ⟨zs, rfl⟩ := ih a2
    cases h0 with
    | str z => exact ⟨z :: zs, rfl⟩
    | _ => cases a1
theorem RItL.all_in {K : PySem.W.Frag} {H : Hp} {zs : List Str} {os : List (Option Str)} (h : RItL K H (zs.map V.str) os) : os.all Option.isSome = true := by
  induction zs generalizing os with
  | nil => cases h; rfl
  | cons z zs ih =>
    cases h with
    | cons h0 ht =>
      cases h0
      rw [List.all_cons, ih ht]
      rfl
/-- a row, or something that is none; whether it is one of xs -/
inductive RowV (K : PySem.W.Frag) (H : Hp) (xs : List Str) : V → Bool → Prop
  | no {v : V} {T : String} : TyX K H v (.type T) → kitB T "list" = some false → RowV K H xs v false
  | lst {a : Addr} {vs : List V} {os : List (Option Str)} {b : Bool} : H a = some (.lst vs) → vs.length ≤ 60 → RItL K H vs os → (b = true ↔ ∃ zs : List Str, vs = zs.map V.str ∧ zs.Perm xs) → RowV K H xs (.ref a) b
theorem RowV.same {K : PySem.W.Frag} {H H' : Hp} {xs : List Str} {v : V} {b : Bool} (h : RowV K H xs v b) (s : Same H H') : RowV K H' xs v b := by
  cases h with
  | no t n => exact .no (TyX.same t s) n
  | lst h1 h2 h3 h4 => exact .lst (s _ _ h1) h2 (h3.same s) h4
def spIsRow (K : PySem.W.Frag) : Sp := fun vs H Q _ => ∃ (n : Addr) (xs : List Str) (v : V) (b : Bool), vs = [.ref n, v] ∧ SqL K H n (xs.map V.str) ∧ sortedS xs = true ∧ RowV K H xs v b ∧ ∀ H', Same H H' → Q (.bl b) H'
section
variable {P : Program} {w : World} {K : PySem.W.Frag} {mg : Str → Option Value} {base : Heap}
abbrev sIsRow : Stmt := top 18
theorem scIsRow : FnScope ["entries", "value", "name"] ["entries", "value"] (defScope sIsRow) := ⟨rfl, rfl, rfl, by decide +kernel, rfl, by decide +kernel, by decide +kernel⟩
theorem ok_isRow {f : Addr} {fd : FuncData} (F : FnP K "is_row" sIsRow f fd) (L : Lib K mg) (LP : LibP mg) : FnOk P w K mg base CX0 1 f fd ["entries", "value"] (spIsRow K) := by
  refine okN F scIsRow (fun vs H Q E h => ?_) (fun cdv A outer s H vs Q E hr h => ?_)
  · obtain ⟨_, _, _, _, rfl, _⟩ := h
    rfl
  · obtain ⟨n, xs, v, b, rfl, hn, so, hv, k⟩ := h
    have hu := hr.units
    have hu1 : (A.deeper (envOfC "is_row" (defScope sIsRow) s.heap.objs.size f cdv)).units + (0 + 1) < cLine := by omega
    refine ⟨_, pss_cons (ps_if (PW.pt (pw_or (pt_not (pt_val (pe_callB call_isi (by rfl) LP.isi (by decide +kernel) (pa_cons (pv 1) (pa_cons (pe_bltn (v := .ty "list") (by rfl) LP.list (by decide +kernel) rfl) pa_nil)))))
        (pw_or1 (pt_not (pt_val (pe_callB (cr_all rfl) (by rfl) LP.all (by decide +kernel) (pa_cons
          (pe_lc (own := [("name", 2)]) (g := gName 2) (tt := tYes) (te := tCB (rIsi K) (tCons (tVar 2) (tCons (tC (.ty "str")) tNil))) rfl scIsRow.nd (pi_list (pv 1))
            (blkOk_by (N := ["entries", "value", "name"]) (sc := defScope sIsRow) (by decide +kernel)) (fun _ _ _ _ _ => pg_name (i := 2) scIsRow.nd rfl (Or.inl rfl)) (fun _ _ _ _ _ => pts_nil)
            (fun _ _ _ _ _ => pe_callB call_isi (by rfl) LP.isi (by decide +kernel) (pa_cons (pv 2) (pa_cons (pe_bltn (v := .ty "str") (by rfl) LP.str (by decide +kernel) rfl) pa_nil)))) pa_nil))))))) (pss_one (ps_ret pe_bl)) pss_nil)
      (pss_one (ps_ret (pe_cmpR (op_eqW (n := 0) hu1) (pe_callB cr_sortedS (by rfl) LP.sorted (by decide +kernel) (pa_cons (pv 1) pa_nil)) (pv 0) (nomark _)))), ?_⟩
    cases hv with
    | @no _ T ty nk =>
      refine ⟨_, rfl, v, .ty "list", .type T, .type "list", false, rfl, .ty _, ty, kit_ty nk, false, rfl, ?_⟩
      exact k H (Same.refl H)
    | @lst a vs os b hH hl ho hb =>
      refine ⟨_, rfl, .ref a, .ty "list", .type "list", .type "list", true, rfl, .ty _, .base (.lst hH), kit_ty (by decide +kernel), true, rfl, ?_⟩
      refine ⟨_, rfl, a, rfl, ⟨_, SqL.of hH⟩, fun D hD => lc_list (K := K) (a := a) (xs := vs) (fun i H' => H' D = some (.lst (((os.map Option.isSome).take i).map V.bl)) ∧ Same H H') ⟨upd_same, sn hD⟩ (fun i H' _ h => SqL.of (h.2 _ _ hH)) ?_ ?_⟩
      · rintro i y H' hi ⟨q1, q2⟩
        obtain ⟨o, ho1, r⟩ := ho.at hi
        obtain ⟨T, ty1, kb1⟩ := (r.same q2).ty
        refine ⟨rfl, _, rfl, y, .ty "str", .type T, .type "str", o.isSome, rfl, .ty _, ty1, kit_ty kb1, _, q1, ?_, ?_, fun c o' e => ?_⟩
        · refine small1000 ?_
          rw [List.length_map]
          have := List.length_take_le' i (os.map Option.isSome)
          rw [List.length_map] at this
          have := ho.len
          omega
        · have e2 : (os.map Option.isSome)[i]? = some o.isSome := by rw [List.getElem?_map, ho1]; rfl
          rw [upd_same, List.take_succ, e2, List.map_append]
          rfl
        · rw [upd_ne (ne_of_none e hD)]
          exact q2 _ _ e
      · rintro H' ⟨q1, q2⟩
        rw [ho.len, List.take_of_length_le (by rw [List.length_map]; exact Nat.le_refl _)] at q1
        refine ⟨D, os.map Option.isSome, rfl, SqL.of q1, _, rfl, ?_⟩
        have e0 : (os.map Option.isSome).all id = os.all Option.isSome := by rw [List.all_map]; rfl
        rw [e0]
        cases hall : os.all Option.isSome with
        | false =>
          have bf : b = false := by
            rw [Bool.eq_false_iff]
            intro bt
            obtain ⟨zs, rfl, p⟩ := hb.mp bt
            rw [ho.all_in] at hall
            cases hall
          rw [bf] at k
          exact k H' q2
        | true =>
          obtain ⟨zs, rfl⟩ := ho.strs hall
          rw [List.length_map] at hl
          refine ⟨_, rfl, a, zs, rfl, SqL.of (q2 _ _ hH), by omega, fun ys D2 p2 so2 n2 => ?_⟩
          have s3 : Same H' (upd H' D2 (.lst (ys.map V.str))) := sn n2
          refine ⟨_, rfl, _, lists_strs (SqL.of upd_same) ((q2.trans s3).seq hn), ?_⟩
          have e : decide (ys = xs) = b := by
            cases hbb : b with
            | true =>
              obtain ⟨zs2, e3, p3⟩ := hb.mp hbb
              rw [map_str_inj e3] at p2
              exact decide_eq_true (sorted_uniq so2 so (p2.trans p3))
            | false =>
              refine decide_eq_false fun e3 => ?_
              rw [hb.mpr ⟨zs, rfl, (e3 ▸ p2).symm⟩] at hbb
              cases hbb
          rw [e]
          exact k _ (q2.trans s3)
end
end G14

set_option maxHeartbeats 8000000
namespace G14
open PySem PySem.Spec PyProof.Rows L2 G1
abbrev ga (K : PySem.W.Frag) (x : Str) : Addr := He.ga K x
def iPs : List Str := ["self", "value"]
/-- an error's class and its __init__ -/
structure ErrC (P : Program) (w : World) (K : PySem.W.Frag) (mg : Str → Option Value) (base : Heap) (x : Str) : Prop where
  ex : ∃ (fI : Addr) (fd : FuncData), EC K (ga K x) fI ∧ FnOk P w K mg base CX0 1 fI fd iPs (spE (ga K x)) ∧ Binds K fd iPs []
  gl : mg x = some (.ref (ga K x))
/-- raise x(e): what is asked -/
def tRaise (C : Addr) (W : WX) (te : TE) : TS := fun _ σ H => te σ H fun v H1 => ∀ (d : Addr) (H' : Hp), Same H1 H' → H1 d = none → H' d = some (.xd [("value", v)]) → W (.ref C) (some d) σ H'
/-- the way on may be made weaker -/
def tClo (te : TE) : TE := fun σ H Q => ∃ Q0 : VK, te σ H Q0 ∧ ∀ v H1, Q0 v H1 → Q v H1
theorem pe_clo {X : Cx} {e : Expr} {te : TE} (he : PE X e te) : PE X e (tClo te) :=
  ⟨fun pins s σ H Q I h => by
    obtain ⟨Q0, h0, k⟩ := h
    exact thn (he.run pins s σ H Q0 I h0) fun u s1 z => by
      obtain ⟨v, H1, I1, r, q⟩ := z
      exact ⟨v, H1, I1, r, k v H1 q⟩⟩
theorem ps_raiseV {X : Cx} {W : WX} {x : Str} {e : Expr} {te : TE} {p pos pos2 : Pos} (hc : X.calm = true) (R : ErrC X.prog X.w X.K X.mg X.base x) (hr : Room 2 X.A) (tk : Takes X W) (hg : Gl X x) (he : PE X e te)
    (hdb : (x == ("__debug__" : Str)) = false := by decide) (h1 : starEach (e :: []) X.env = (false, eval e X.env) :: starEach [] X.env := by rfl) (hpl : (backTo pos (starEach [] X.env)).any (·.1) = false := by rfl) :
    PS X (.Raise (some (.Call (.Name x p) [e] [] pos)) none pos2) (tRaise (ga X.K x) W te) := by
  obtain ⟨fI, fd, E, F, b⟩ := R.ex
  have q := ps_raise (W := W) (pos := pos2) hc tk (pmk_oex (p := p) (pos := pos) E.t E.iC E.tI F hr b .nil pass0 hg R.gl (pa_cons (pe_clo he) pa_nil h1) hdb h1 hpl)
  refine ⟨fun pins s σ H D I h => q.run pins s σ H D I ⟨_, h, fun v H1 k => ⟨(by decide : 1 ≤ 1000), fun a na => ?_⟩⟩⟩
  refine ⟨a, v, rfl, upd_same, fun d nd nda => ⟨rfl, d, [("value", v)], upd_same, ?_, ?_, ?_⟩⟩
  · rw [upd_ne nda]
    exact upd_same
  · rw [upd_ne nda] at nd
    exact nd
  · refine k d _ (fun c o e => ?_) ?_ upd_same
    · have nca : c ≠ a := ne_of_none e na
      have ncd : c ≠ d := fun z => by
        rw [z] at e
        rw [upd_ne nda, e] at nd
        cases nd
      rw [upd_ne ncd, del_ne nca, upd_ne nca, upd_ne ncd, upd_ne nca]
      exact e
    · rw [upd_ne nda] at nd
      exact nd
def spChkE (K : PySem.W.Frag) : Sp := fun vs H Q E => ∃ (v : V) (b : Bool), vs = [v] ∧ Unl K H v b ∧ (b = true → ∀ H', Same H H' → Q .non H') ∧
  (b = false → ∀ (d : Addr) (H' : Hp), Same H H' → H d = none → H' d = some (.xd [("value", v)]) → E (.ref (ga K "InvalidEntries")) (some d) H')
section
variable {P : Program} {w : World} {K : PySem.W.Frag} {mg : Str → Option Value} {base : Heap}
abbrev sChkE : Stmt := top 20
theorem scChkE : FnScope ["entries"] ["entries"] (defScope sChkE) := ⟨rfl, rfl, rfl, by decide +kernel, rfl, by decide +kernel, by decide +kernel⟩
theorem ok_chkE {f fU : Addr} {fd fdU : FuncData} (F : FnP K "check_entries" sChkE f fd) (R : ErrC P w K mg base "InvalidEntries") (FU : FnP K "are_unlike_names" sUnlike fU fdU) (gU : mg "are_unlike_names" = some (.ref fU))
    (GU : FnOk P w K mg base CX0 2 fU fdU ["value"] (spUnlike K)) : FnOk P w K mg base (L2.CX P w) 3 f fd ["entries"] (spChkE K) := by
  have bU : Binds K fdU ["value"] [] := FU.bindsN fun _ _ _ _ _ _ us hl => match us, hl with | [_], _ => rfl
  refine F.ok scChkE (fun vs H Q E h => ?_) (fun cdv A outer s H vs Q E hr h => ?_)
  · obtain ⟨_, _, rfl, _⟩ := h
    rfl
  · obtain ⟨v, b, rfl, hv, k1, k2⟩ := h
    refine ⟨_, pss_one (ps_if (pt_not (pt_val (pe_call GU hr (by rfl) gU FU.kp bU .nil pass0 (pa_cons (pv 0) pa_nil)))) (pss_one (ps_raiseV rfl R hr (takes_of rfl rfl rfl rfl) (by rfl) (pv 0))) pss_nil), ?_⟩
    refine ⟨_, rfl, v, b, rfl, hv, fun H1 s1 => ⟨_, rfl, ?_⟩⟩
    cases b with
    | true => exact k1 rfl H1 s1
    | false => exact ⟨_, rfl, fun d H' s2 nd hd => k2 rfl d H' (s1.trans s2) (s1.free nd) hd⟩
end
end G14

set_option maxHeartbeats 8000000
namespace G14
open PySem PySem.Spec PyProof.Rows L2 G1
inductive RowVL (K : PySem.W.Frag) (H : Hp) (xs : List Str) : List V → List Bool → Prop
  | nil : RowVL K H xs [] []
  | cons {v : V} {b : Bool} {vs : List V} {bs : List Bool} : RowV K H xs v b → RowVL K H xs vs bs → RowVL K H xs (v :: vs) (b :: bs)
theorem RowVL.len {K : PySem.W.Frag} {H : Hp} {xs : List Str} {vs : List V} {bs : List Bool} (h : RowVL K H xs vs bs) : vs.length = bs.length := by
  induction h with
  | nil => rfl
  | cons _ _ ih => rw [List.length_cons, List.length_cons, ih]
theorem RowVL.same {K : PySem.W.Frag} {H H' : Hp} {xs : List Str} {vs : List V} {bs : List Bool} (h : RowVL K H xs vs bs) (s : Same H H') : RowVL K H' xs vs bs := by
  induction h with
  | nil => exact .nil
  | cons e _ ih => exact .cons (e.same s) ih
theorem RowVL.at {K : PySem.W.Frag} {H : Hp} {xs : List Str} {vs : List V} {bs : List Bool} (h : RowVL K H xs vs bs) : ∀ {i : Nat} {v : V}, vs[i]? = some v → ∃ b, bs[i]? = some b ∧ RowV K H xs v b := by
  induction h with
  | nil => intro i v e; cases e
  | @cons v0 b0 vs bs h0 _ ih =>
    intro i v e
    match i, e with
    | 0, e =>
      cases e
      exact ⟨b0, rfl, h0⟩
    | i + 1, e => exact ih e
/-- a list of rows of xs, or something that is none -/
inductive RowsV (K : PySem.W.Frag) (H : Hp) (xs : List Str) : V → Bool → Prop
  | no {v : V} {T : String} : TyX K H v (.type T) → kitB T "list" = some false → RowsV K H xs v false
  | lst {a : Addr} {vs : List V} {bs : List Bool} : H a = some (.lst vs) → vs.length ≤ 60 → RowVL K H xs vs bs → RowsV K H xs (.ref a) (!vs.isEmpty && bs.all id)
theorem RowsV.same {K : PySem.W.Frag} {H H' : Hp} {xs : List Str} {v : V} {b : Bool} (h : RowsV K H xs v b) (s : Same H H') : RowsV K H' xs v b := by
  cases h with
  | no t n => exact .no (TyX.same t s) n
  | lst h1 h2 h3 => exact .lst (s _ _ h1) h2 (h3.same s)
def spChkR (K : PySem.W.Frag) : Sp := fun vs H Q E => ∃ (n : Addr) (xs : List Str) (v : V) (b : Bool), vs = [.ref n, v] ∧ SqL K H n (xs.map V.str) ∧ sortedS xs = true ∧ RowsV K H xs v b ∧ (b = true → ∀ H', Same H H' → Q .non H') ∧
  (b = false → ∀ (d : Addr) (H' : Hp), Same H H' → H d = none → H' d = some (.xd [("value", v)]) → E (.ref (ga K "InvalidRows")) (some d) H')
/-- whether all are rows -/
def spAreR (K : PySem.W.Frag) : Sp := fun vs H Q _ => ∃ (n : Addr) (xs : List Str) (v : V) (b : Bool), vs = [.ref n, v] ∧ SqL K H n (xs.map V.str) ∧ sortedS xs = true ∧ RowsV K H xs v b ∧
  ∀ (r : Bool) (H' : Hp), Same H H' → (r = false → b = false) → (r = true → ∃ (a : Addr) (vs : List V), v = .ref a ∧ H a = some (.lst vs) ∧ b = !vs.isEmpty) → Q (.bl r) H'
section
variable {P : Program} {w : World} {K : PySem.W.Frag} {mg : Str → Option Value} {base : Heap}
abbrev sAreR : Stmt := top 19
theorem scAreR : FnScope ["entries", "value", "row"] ["entries", "value"] (defScope sAreR) := ⟨rfl, rfl, rfl, by decide +kernel, rfl, by decide +kernel, by decide +kernel⟩
theorem ok_areR {f fR : Addr} {fd fdR : FuncData} (F : FnP K "are_rows" sAreR f fd) (L : Lib K mg) (LP : LibP mg) (FR : FnP K "is_row" sIsRow fR fdR) (gR : mg "is_row" = some (.ref fR))
    (GR : FnOk P w K mg base CX0 1 fR fdR ["entries", "value"] (spIsRow K)) : FnOk P w K mg base CX0 2 f fd ["entries", "value"] (spAreR K) := by
  have bR : Binds K fdR ["entries", "value"] [] := FR.bindsN fun _ _ _ _ _ _ us hl => match us, hl with | [_, _], _ => rfl
  refine okN F scAreR (fun vs H Q E h => ?_) (fun cdv A outer s H vs Q E hr h => ?_)
  · obtain ⟨_, _, _, _, rfl, _⟩ := h
    rfl
  · obtain ⟨n, xs, v, b, rfl, hn, so, hv, k⟩ := h
    refine ⟨_, pss_one (ps_ret (pe_and (pe_callB call_isi (by rfl) LP.isi (by decide +kernel) (pa_cons (pv 1) (pa_cons (pe_bltn (v := .ty "list") (by rfl) LP.list (by decide +kernel) rfl) pa_nil)))
        (pe_one (pe_callB (cr_all rfl) (by rfl) LP.all (by decide +kernel) (pa_cons
          (pe_lc (own := [("row", 2)]) (g := gName 2) (tt := tYes) (te := tCall (spIsRow K) [] E0 (tCons (tVar 0) (tCons (tVar 2) tNil))) rfl scAreR.nd (pi_list (pv 1))
            (blkOk_by (N := ["entries", "value", "row"]) (sc := defScope sAreR) (by decide +kernel)) (fun _ _ _ _ _ => pg_name (i := 2) scAreR.nd rfl (Or.inl rfl)) (fun _ _ _ _ _ => pts_nil)
            (fun _ _ _ _ _ => pe_call GR hr (by rfl) gR FR.kp bR .nil pass0 (pa_cons (pv 0) (pa_cons (pv 2) pa_nil)))) pa_nil))))), ?_⟩
    cases hv with
    | @no _ T ty nk =>
      refine ⟨_, rfl, v, .ty "list", .type T, .type "list", false, rfl, .ty _, ty, kit_ty nk, false, rfl, iteF ?_⟩
      exact k false H (Same.refl H) (fun _ => rfl) fun q => nomatch q
    | @lst a vs bs hH hl hb =>
      refine ⟨_, rfl, .ref a, .ty "list", .type "list", .type "list", true, rfl, .ty _, .base (.lst hH), kit_ty (by decide +kernel), true, rfl, iteT ?_⟩
      refine ⟨_, rfl, a, rfl, ⟨_, SqL.of hH⟩, fun D hD => lc_list (K := K) (a := a) (xs := vs) (fun i H' => H' D = some (.lst ((bs.take i).map V.bl)) ∧ Same H H') ⟨upd_same, sn hD⟩ (fun i H' _ h => SqL.of (h.2 _ _ hH)) ?_ ?_⟩
      · rintro i y H' hi ⟨q1, q2⟩
        obtain ⟨b1, hb1, nb⟩ := hb.at hi
        refine ⟨rfl, _, rfl, _, rfl, n, xs, y, b1, rfl, q2.seq hn, so, nb.same q2, fun H2 s2 => ⟨_, s2 _ _ q1, ?_, ?_, fun c o e => ?_⟩⟩
        · refine small1000 ?_
          rw [List.length_map]
          have := List.length_take_le' i bs
          have := hb.len
          omega
        · rw [upd_same, List.take_succ, hb1, List.map_append]
          rfl
        · rw [upd_ne (ne_of_none e hD)]
          exact s2 _ _ (q2 _ _ e)
      · rintro H' ⟨q1, q2⟩
        rw [hb.len, List.take_length] at q1
        refine ⟨D, bs, rfl, SqL.of q1, ?_⟩
        refine k _ H' q2 (fun q => ?_) (fun q => ⟨a, vs, rfl, hH, ?_⟩)
        · rw [q, Bool.and_false]
        · rw [q, Bool.and_true]
abbrev sChkR : Stmt := top 21
theorem scChkR : FnScope ["entries", "rows"] ["entries", "rows"] (defScope sChkR) := ⟨rfl, rfl, rfl, by decide +kernel, rfl, by decide +kernel, by decide +kernel⟩
theorem ok_chkR {f fA : Addr} {fd fdA : FuncData} (F : FnP K "check_rows" sChkR f fd) (R : ErrC P w K mg base "InvalidRows") (FA : FnP K "are_rows" sAreR fA fdA) (gA : mg "are_rows" = some (.ref fA))
    (GA : FnOk P w K mg base CX0 2 fA fdA ["entries", "value"] (spAreR K)) : FnOk P w K mg base (L2.CX P w) 3 f fd ["entries", "rows"] (spChkR K) := by
  have bA : Binds K fdA ["entries", "value"] [] := FA.bindsN fun _ _ _ _ _ _ us hl => match us, hl with | [_, _], _ => rfl
  refine F.ok scChkR (fun vs H Q E h => ?_) (fun cdv A outer s H vs Q E hr h => ?_)
  · obtain ⟨_, _, _, _, rfl, _⟩ := h
    rfl
  · obtain ⟨n, xs, v, b, rfl, hn, so, hv, k1, k2⟩ := h
    refine ⟨_, pss_one (ps_if (PW.pt (pw_or (pt_not (pt_val (pe_call GA hr (by rfl) gA FA.kp bA .nil pass0 (pa_cons (pv 0) (pa_cons (pv 1) pa_nil)))))
        (pw_or1 (pt_not (pt_truth (pv 1) (by intro _; rfl)))))) (pss_one (ps_raiseV rfl R hr (takes_of rfl rfl rfl rfl) (by rfl) (pv 1))) pss_nil), ?_⟩
    refine ⟨_, rfl, _, rfl, n, xs, v, b, rfl, hn, so, hv, fun r H1 s1 rf rt => ?_⟩
    cases r with
    | false => exact ⟨_, rfl, _, rfl, fun d H' s2 nd hd => k2 (rf rfl) d H' (s1.trans s2) (s1.free nd) hd⟩
    | true =>
      obtain ⟨a, vs, rfl, hH, eb⟩ := rt rfl
      refine ⟨_, rfl, _, rfl, !vs.isEmpty, .inl ⟨vs, SqL.of (s1 _ _ hH), rfl⟩, ?_⟩
      cases vs with
      | nil => exact ⟨_, rfl, fun d H' s2 nd hd => k2 eb d H' (s1.trans s2) (s1.free nd) hd⟩
      | cons x0 xs0 => exact k1 eb H1 s1
end
end G14

set_option maxHeartbeats 4000000
namespace G1
open PySem PySem.Spec PyProof.Rows L2
section
variable {X : Cx} {CX : CXT} {k : Nat} {C f : Addr} {fd : FuncData} {ps : List Str} {sp : Sp} {E : L2.St → XK} {x : Str} {p pos : Pos} {e : Expr} {es : List Expr} {t : TA}
/-- C(e, ..) whose __init__ may raise into a suite here -/
def tMakeS (C : Addr) (sp : Sp) (E : L2.St → XK) (t : TA) : TE := fun σ H Q => t σ H fun vs H1 => ∀ a dx, H1 a = none → H1 dx = none → dx ≠ a → sp (.ref a :: vs) (upd (upd H1 dx (.own a)) a (.ins C dx [])) (fun v H2 => v = .non ∧ Q (.ref a) H2) (E σ)
theorem pe_makeS (M : Mk X.K C f) (F : FnOk X.prog X.w X.K X.mg X.base CX k f fd ps sp) (hr : Room (k + 1) X.A) (hg : Gl X x) (hm : X.mg x = some (.ref C)) (hb : Binds X.K fd ps []) (hx : ∀ σ, PassesAt CX X σ (E σ))
    (ha : PA X (e :: es) t) (hdb : (x == ("__debug__" : Str)) = false := by decide) (he : starEach (e :: es) X.env = (false, eval e X.env) :: starEach es X.env := by rfl) (hpl : (backTo pos (starEach es X.env)).any (·.1) = false := by rfl) :
    PE X (.Call (.Name x p) (e :: es) [] pos) (tMakeS C sp E t) := by
  refine ⟨fun pins s0 σ H0 Q I0 h => wpAny_Call_Name_kw (ld_glob I0 hg hm ?_ hdb)⟩
  refine PySem.W.callWith_K (h₀ := X.base) I0.ok.mod.kin M.kp (thn (ha.run pos pins s0 σ H0 _ I0 h) fun us s ⟨vs, H, I, r, q⟩ => ⟨I.kIn, ?_⟩) he hpl
  have q1 := q (s.heap.objs.size + 1) s.heap.objs.size (I.hok.fresh (Nat.le_succ _)) (I.hok.fresh (Nat.le_refl _)) (Nat.ne_of_lt (Nat.lt_succ_self _))
  have J := Inv.made (C := C) I
  have r1 : Vals (V.ref (s.heap.objs.size + 1) :: vs) (Value.ref (s.heap.objs.size + 1) :: us) := .cons rfl r
  have len : (Value.ref (s.heap.objs.size + 1) :: us).length = ps.length := r1.length.symm.trans (F.len _ _ _ _ q1)
  have b := hb _ (Value.ref (s.heap.objs.size + 1) :: us) J.kIn (by rw [List.append_nil]; exact len)
  rw [List.append_nil] at b
  refine wpAny_call (make_map (f := f) I.kIn M.makes M.init (beq_iff_eq.mp M.fn) (codeAny_mono (F.run _ X.stack _ _ ⟨Value.ref (s.heap.objs.size + 1) :: us, []⟩ (Value.ref (s.heap.objs.size + 1) :: us) _ _ (E σ) (hr.make C us []) (J.env0.make C us []) b r1 q1) fun res s' z => ?_))
  match res, z with
  | .error u, z => exact hx σ pins _ _ u s' J z
  | .ok (.ret u), z =>
    obtain ⟨v, H', I', rv, ev, q3⟩ := J.after z
    subst ev
    exact ⟨rv, ⟨.ref (s.heap.objs.size + 1), H', I', rfl, q3⟩⟩
end
end G1

set_option maxHeartbeats 8000000
namespace G14
open PySem PySem.Spec PyProof.Rows L2 G1
def methS (j : Nat) : Stmt := match top 32 with
  | .ClassDef _ _ _ body .. => body.getD j (.Pass ⟨0, 0, 0, 0⟩)
  | s => s
abbrev FnM (K : PySem.W.Frag) (x q : Str) (st : Stmt) (f : Addr) (fd : FuncData) : Prop := FunD K x q (defArgs st) (defBody st) (defScope st) [] [] f fd
/-- the class Panel -/
structure PanC (K : PySem.W.Frag) (C : Addr) : Prop where
  cls : Cls K C
  nE : NoAttr K C "_entries"
  nR : NoAttr K C "_rows"
theorem RowsAt.at {H : Hp} {as : List Addr} {rs : List (List Str)} (h : RowsAt H as rs) : ∀ {i : Nat} {c : Addr}, as[i]? = some c → ∃ ws, rs[i]? = some ws ∧ H c = some (.lst (ws.map V.str)) := by
  induction h with
  | nil => intro i c e; cases e
  | @cons a0 r0 as rs h0 _ ih =>
    intro i c e
    match i, e with
    | 0, e =>
      cases e
      exact ⟨r0, rfl, h0⟩
    | i + 1, e => exact ih e
theorem rows_of_all {K : PySem.W.Frag} {H : Hp} {xs : List Str} {vs : List V} {bs : List Bool} (h : RowVL K H xs vs bs) (a : bs.all id = true) : ∃ (as : List Addr) (rs : List (List Str)), vs = as.map V.ref ∧ RowsAt H as rs ∧ ∀ r ∈ rs, r.Perm xs := by
  induction h with
  | nil => exact ⟨[], [], rfl, .nil, fun r hr => nomatch hr⟩
  | cons h0 _ ih =>
    rw [List.all_cons] at a
    obtain ⟨a1, a2⟩ := He.ba a
    obtain ⟨as, rs, rfl, h1, h2⟩ := ih a2
    cases h0 with
    | no _ _ => cases a1
    | @lst c ws os b e1 e2 e3 e4 =>
      obtain ⟨zs, rfl, p⟩ := e4.mp a1
      exact ⟨c :: as, zs :: rs, rfl, .cons e1 h1, fun r hr => by
        rcases List.mem_cons.mp hr with rfl | hr
        · exact p
        · exact h2 r hr⟩
def spInit (K : PySem.W.Frag) (C : Addr) : Sp := fun vs H Q E => ∃ (a dx : Addr) (ve vr : V) (b : Bool), vs = [.ref a, ve, vr] ∧ H a = some (.ins C dx []) ∧ Unl K H ve b ∧
  (b = false → ∀ (d : Addr) (H' : Hp), Same H H' → H d = none → H' d = some (.xd [("value", ve)]) → E (.ref (ga K "InvalidEntries")) (some d) H') ∧
  (b = true → ∃ (e : Addr) (zs : List Str), ve = .ref e ∧ SqL K H e (zs.map V.str) ∧ zs.length < 64 ∧ ∀ xs : List Str, xs.Perm zs → sortedS xs = true → ∃ b2, RowsV K H xs vr b2 ∧
    (b2 = false → ∀ (d : Addr) (H' : Hp), Same H H' → H d = none → H' d = some (.xd [("value", vr)]) → E (.ref (ga K "InvalidRows")) (some d) H') ∧
    (b2 = true → ∀ (r : Addr) (as : List Addr) (rs : List (List Str)), vr = .ref r → H r = some (.lst (as.map V.ref)) → RowsAt H as rs → (∀ y ∈ rs, y.Perm xs) →
      ∀ (fs : List (Str × V)) (N R : Addr) (cs : List Addr) (H' : Hp), H' a = some (.ins C dx fs) → fs.lookup ("_entries" : Str) = some (V.ref N) → fs.lookup ("_rows" : Str) = some (V.ref R) → H' N = some (.lst (xs.map V.str)) → H' R = some (.lst (cs.map V.ref)) → RowsAt H' cs rs →
        H N = none → H R = none → (∀ c ∈ cs, H c = none) → fs.lookup ("entries" : Str) = none → (fs.lookup ("rows" : Str) = none ∧ fs.lookup ("struck" : Str) = none ∧ fs.lookup ("with_row" : Str) = none ∧ fs.lookup ("without_row" : Str) = none ∧ fs.lookup ("renamed" : Str) = none) → But a H H' → Q .non H'))
section
variable {P : Program} {w : World} {K : PySem.W.Frag} {mg : Str → Option Value} {base : Heap}
abbrev sInit : Stmt := methS 0
theorem scInit : FnScope ["self", "entries", "rows", "names", "row"] ["self", "entries", "rows"] (defScope sInit) := ⟨rfl, rfl, rfl, by decide +kernel, rfl, by decide +kernel, by decide +kernel⟩
theorem ok_init {f fE fR C : Addr} {fd fdE fdR : FuncData} (F : FnM K "__init__" "Panel.__init__" sInit f fd) (L : Lib K mg) (LP : LibP mg) (PC : PanC K C)
    (FE : FnP K "check_entries" sChkE fE fdE) (gE : mg "check_entries" = some (.ref fE)) (GE : FnOk P w K mg base (L2.CX P w) 3 fE fdE ["entries"] (spChkE K))
    (FR : FnP K "check_rows" sChkR fR fdR) (gR : mg "check_rows" = some (.ref fR)) (GR : FnOk P w K mg base (L2.CX P w) 3 fR fdR ["entries", "rows"] (spChkR K)) : FnOk P w K mg base (L2.CX P w) 4 f fd ["self", "entries", "rows"] (spInit K C) := by
  have bE : Binds K fdE ["entries"] [] := FE.bindsN fun _ _ _ _ _ _ us hl => match us, hl with | [_], _ => rfl
  have bR : Binds K fdR ["entries", "rows"] [] := FR.bindsN fun _ _ _ _ _ _ us hl => match us, hl with | [_, _], _ => rfl
  refine F.ok scInit (fun vs H Q E h => ?_) (fun cdv A outer s H vs Q E hr h => ?_)
  · obtain ⟨_, _, _, _, _, rfl, _⟩ := h
    rfl
  · obtain ⟨a, dx, ve, vr, b, rfl, ha, hv, k1, k2⟩ := h
    have tk : Takes (cxOf (L2.CX P w) P w K mg base ["self", "entries", "rows", "names", "row"] "Panel.__init__" (defScope sInit) f cdv A outer s H E) (fun cls d _ H' => E cls d H') := takes_of rfl rfl rfl rfl
    refine ⟨_, pss_cons (ps_expr (pe_callS GE hr (by rfl) gE FE.kp bE (fun σ => passAt tk σ) (pa_cons (pv 1) pa_nil)))
      (pss_cons (ps_set (i := 3) scInit.nd rfl (Or.inl rfl) (pe_callB cr_sortedS (by rfl) LP.sorted (by decide +kernel) (pa_cons (pv 1) pa_nil)))
      (pss_cons (ps_expr (pe_callS GR hr (by rfl) gR FR.kp bR (fun σ => passAt tk σ) (pa_cons (pv 3) (pa_cons (pv 2) pa_nil))))
      (pss_cons (ps_fld (pv 0) (pv 3) rfl)
      (pss_one (ps_fld (pv 0) (pe_lc (own := [("row", 4)]) (g := gName 4) (tt := tYes) (te := tCB (fun xs H Q => ∃ p ys, xs = [V.ref p] ∧ (SqL K H p ys ∨ SqT K H p ys) ∧ ∀ l, H l = none → Q (.ref l) (upd H l (.lst ys))) (tCons (tVar 4) tNil)) rfl scInit.nd (pi_list (pv 2))
            (blkOk_by (N := ["self", "entries", "rows", "names", "row"]) (sc := defScope sInit) (by decide +kernel)) (fun _ _ _ _ _ => pg_name (i := 4) scInit.nd rfl (Or.inl rfl)) (fun _ _ _ _ _ => pts_nil)
            (fun _ _ _ _ _ => pe_callTy call_list_of (by rfl) LP.list (by decide +kernel) (pa_cons (pv 4) pa_nil))) rfl))))), ?_⟩
    refine ⟨_, rfl, ve, b, rfl, hv, fun hb H1 s1 => ?_, fun hb d H' s2 nd hd => k1 hb d H' s2 nd hd⟩
    obtain ⟨e, zs, rfl, hS, hz, k3⟩ := k2 hb
    refine ⟨_, rfl, e, zs, rfl, s1.seq hS, hz, fun xs N perm so nN => ?_⟩
    have s2 : Same H1 (upd H1 N (.lst (xs.map V.str))) := sn nN
    have fN : upd H1 N (.lst (xs.map V.str)) N = some (.lst (xs.map V.str)) := upd_same
    generalize upd H1 N (.lst (xs.map V.str)) = H2 at s2 fN ⊢
    have nNH : H N = none := s1.free nN
    have s12 := s1.trans s2
    obtain ⟨b2, hR, kf, kt⟩ := k3 xs perm so
    refine ⟨_, rfl, _, rfl, N, xs, vr, b2, rfl, SqL.of fN, so, hR.same s12, fun hb2 H3 s3 => ?_, fun hb2 d H' s4 nd hd => kf hb2 d H' (s12.trans s4) (s12.free nd) hd⟩
    have s13 := s12.trans s3
    have ha3 := s13 _ _ ha
    refine ⟨_, rfl, _, rfl, a, C, dx, [], rfl, ha3, PC.cls, PC.nE, (show 0 < 1000 by decide), ?_⟩
    have nNa : N ≠ a := fun q => by
      rw [q, ha] at nNH
      cases nNH
    have fN4 : upd H3 a (.ins C dx (putF "_entries" (.ref N) [])) N = some (.lst (xs.map V.str)) := by
      rw [upd_ne nNa]
      exact s3 _ _ fN
    have fa4 : upd H3 a (.ins C dx (putF "_entries" (.ref N) [])) a = some (.ins C dx (putF "_entries" (.ref N) [])) := upd_same
    have b4 : But a H (upd H3 a (.ins C dx (putF "_entries" (.ref N) []))) := (But.same s13).trans But.upd
    generalize upd H3 a (.ins C dx (putF "_entries" (.ref N) [])) = H4 at fN4 fa4 b4 ⊢
    cases hR with
    | no _ _ => cases hb2
    | @lst r vs bs e1 e2 e3 =>
      obtain ⟨_, hall⟩ := He.ba hb2
      obtain ⟨as, rs, rfl, hra, hrp⟩ := rows_of_all e3 hall
      have nra : r ≠ a := fun q => by
        rw [q, ha] at e1
        cases e1
      have nas : ∀ c ∈ as, c ≠ a := fun c hc q => by
        obtain ⟨y, _, e⟩ := hra.strs hc
        rw [q, ha] at e
        cases e
      have f4 := b4 _ _ nra e1
      have r4 : RowsAt H4 as rs := hra.keep fun c hc o e => b4 c o (nas c hc) e
      have kk := kt hb2 r as rs rfl e1 hra hrp
      refine ⟨_, rfl, r, rfl, ⟨_, SqL.of f4⟩, fun D hD => lc_list (K := K) (a := r) (xs := as.map V.ref) (fun i H' => ∃ cs : List Addr, H' D = some (.lst (cs.map V.ref)) ∧ RowsAt H' cs (rs.take i) ∧ (∀ c ∈ cs, H4 c = none ∧ c ≠ D) ∧ Same H4 H') ?_ (fun i H' _ h => by obtain ⟨_, _, _, _, h⟩ := h; exact SqL.of (h _ _ f4)) ?_ ?_⟩
      · exact ⟨[], upd_same, .nil, (fun c hc => nomatch hc), sn hD⟩
      · rintro i y H' hi ⟨cs, q1, q2, q3, q4⟩
        rw [List.getElem?_map] at hi
        obtain ⟨c, hc, rfl⟩ := Option.map_eq_some_iff.mp hi
        obtain ⟨ws, hw1, hw2⟩ := r4.at hc
        refine ⟨rfl, _, rfl, c, ws.map V.str, rfl, .inl (SqL.of (q4 _ _ hw2)), fun l nl => ?_⟩
        have s5 : Same H' (upd H' l (.lst (ws.map V.str))) := sn nl
        have fl : upd H' l (.lst (ws.map V.str)) l = some (.lst (ws.map V.str)) := upd_same
        generalize upd H' l (.lst (ws.map V.str)) = H5 at s5 fl ⊢
        have nlD : l ≠ D := fun q => by
          rw [q, q1] at nl
          cases nl
        refine ⟨cs.map V.ref, s5 _ _ q1, ?_, cs ++ [l], by rw [upd_same, List.map_append]; rfl, ?_, ?_, fun b o e => ?_⟩
        · refine small1000 ?_
          rw [List.length_map, q2.len]
          have := List.length_take_le' i rs
          have := hra.len
          rw [List.length_map] at e2
          omega
        · have tk2 : rs.take (i + 1) = rs.take i ++ [ws] := by rw [List.take_succ, hw1]; rfl
          rw [tk2]
          refine RowsAt.snoc ((q2.same s5).keep fun x hx o e => ?_) ?_
          · rw [upd_ne (q3 x hx).2]
            exact e
          · rw [upd_ne nlD]
            exact fl
        · intro x hx
          rcases List.mem_append.mp hx with hx | hx
          · exact q3 x hx
          · rw [List.mem_singleton.mp hx]
            exact ⟨q4.free nl, nlD⟩
        · rw [upd_ne (ne_of_none e hD)]
          exact s5 _ _ (q4 _ _ e)
      · rintro H' ⟨cs, q1, q2, q3, q4⟩
        have lr : (as.map V.ref).length = rs.length := by rw [List.length_map, hra.len]
        rw [lr, List.take_length] at q2
        have fa5 := q4 _ _ fa4
        refine ⟨_, rfl, a, C, dx, _, rfl, fa5, PC.cls, PC.nR, (show 1 < 1000 by decide), ?_⟩
        have nDa : D ≠ a := fun q => by
          rw [q, fa4] at hD
          cases hD
        have nDH : H D = none := by
          cases e : H D with
          | none => rfl
          | some o =>
            rw [b4 _ _ nDa e] at hD
            cases hD
        have ncs : ∀ c ∈ cs, c ≠ a := fun c hc q => by
          obtain ⟨y, _, e⟩ := q2.strs hc
          rw [q, fa5] at e
          cases e
        refine kk (putF "_rows" (.ref D) (putF "_entries" (.ref N) [])) N D cs _ upd_same rfl rfl ?_ ?_ (q2.keep fun c hc o e => by rw [upd_ne (ncs c hc)]; exact e) nNH nDH (fun c hc => ?_) rfl ⟨rfl, rfl, rfl, rfl, rfl⟩ ((b4.trans (But.same q4)).trans But.upd)
        · rw [upd_ne nNa]
          exact q4 _ _ fN4
        · rw [upd_ne nDa]
          exact q1
        · cases e : H c with
          | none => rfl
          | some o =>
            have := (q3 c hc).1
            rw [b4 _ _ (ncs c hc) e] at this
            cases this
end
end G14

set_option maxHeartbeats 8000000
namespace G14
open PySem PySem.Spec PyProof.Rows L2 G1
/-- lists of rows -/
theorem lists_rows {K : PySem.W.Frag} {H : Hp} {a c : Addr} {as cs : List Addr} {rs ts : List (List Str)} (ha : H a = some (.lst (as.map V.ref))) (hc : H c = some (.lst (cs.map V.ref))) (hr : RowsAt H as rs) (ht : RowsAt H cs ts) :
    Lists2 K H 1 (.ref a) (.ref c) (decide (rs = ts)) := by
  refine ⟨a, c, _, _, rfl, rfl, SqL.of ha, SqL.of hc, ?_⟩
  have l1 := hr.len
  have l2 := ht.len
  by_cases l : rs.length = ts.length
  · refine .inr ⟨by rw [List.length_map, List.length_map]; omega, fun i => decide (rs[i]? = ts[i]?), fun i x y hx hy => ?_, by rw [List.length_map, l1, all_range_eq l]⟩
    rw [List.getElem?_map] at hx hy
    obtain ⟨b, hb, rfl⟩ := Option.map_eq_some_iff.mp hx
    obtain ⟨d, hd, rfl⟩ := Option.map_eq_some_iff.mp hy
    obtain ⟨r, hr1, hr2⟩ := hr.at hb
    obtain ⟨t, ht1, ht2⟩ := ht.at hd
    show EqW K H 1 (.ref b) (.ref d) (decide (rs[i]? = ts[i]?))
    rw [hr1, ht1]
    by_cases q : b = d
    · subst q
      rw [hr2] at ht2
      injection ht2 with e
      injection e with e
      rw [map_str_inj e, decide_eq_true rfl]
      exact .same
    · obtain ⟨_, _, us, ws, e1, e2, s1, s2, z⟩ := lists_strs (K := K) (SqL.of hr2) (SqL.of ht2)
      have de : decide (some r = some t) = decide (r = t) := by
        by_cases w : r = t
        · rw [w, decide_eq_true rfl, decide_eq_true rfl]
        · rw [decide_eq_false w, decide_eq_false fun h => w (Option.some.inj h)]
      rw [de]
      cases e1
      cases e2
      rcases z with ⟨ne, e⟩ | ⟨len, f, hf, e⟩
      · rw [e]
        exact .lens q s1 s2 ne
      · rw [e]
        exact .lists q s1 s2 len hf
  · refine .inl ⟨by rw [List.length_map, List.length_map]; omega, decide_eq_false fun e => l (by rw [e])⟩
/-- a panel of entries xs and rows rs -/
def PanelAt (H : Hp) (C a : Addr) (xs : List Str) (rs : List (List Str)) : Prop := ∃ (dx : Addr) (fs : List (Str × V)) (N R : Addr) (cs : List Addr), H a = some (.ins C dx fs) ∧ fs.lookup ("_entries" : Str) = some (V.ref N) ∧ fs.lookup ("_rows" : Str) = some (V.ref R) ∧
  H N = some (.lst (xs.map V.str)) ∧ H R = some (.lst (cs.map V.ref)) ∧ RowsAt H cs rs
theorem PanelAt.same {H H' : Hp} {C a : Addr} {xs : List Str} {rs : List (List Str)} (h : PanelAt H C a xs rs) (s : Same H H') : PanelAt H' C a xs rs := by
  obtain ⟨dx, fs, N, R, cs, h1, h2, h3, h4, h5, h6⟩ := h
  exact ⟨dx, fs, N, R, cs, s _ _ h1, h2, h3, s _ _ h4, s _ _ h5, h6.same s⟩
def spEnt (C : Addr) : Sp := fun vs H Q _ => ∃ (a : Addr) (xs : List Str) (rs : List (List Str)), vs = [.ref a] ∧ PanelAt H C a xs rs ∧ ∀ D H', Same H H' → H D = none → H' D = some (.lst (xs.map V.str)) → Q (.ref D) H'
def spRws (C : Addr) : Sp := fun vs H Q _ => ∃ (a : Addr) (xs : List Str) (rs : List (List Str)), vs = [.ref a] ∧ PanelAt H C a xs rs ∧ rs.length ≤ 60 ∧
  ∀ D (as : List Addr) H', Same H H' → H D = none → H' D = some (.lst (as.map V.ref)) → RowsAt H' as rs → (∀ c ∈ as, H c = none ∧ c ≠ D) → as.Nodup → Q (.ref D) H'
def spLen (C : Addr) : Sp := fun vs H Q _ => ∃ (a : Addr) (xs : List Str) (rs : List (List Str)), vs = [.ref a] ∧ PanelAt H C a xs rs ∧ Q (.int (rs.length : Int)) H
section
variable {P : Program} {w : World} {K : PySem.W.Frag} {mg : Str → Option Value} {base : Heap} {C : Addr}
abbrev sEnt : Stmt := methS 1
theorem scEnt : FnScope ["self"] ["self"] (defScope sEnt) := ⟨rfl, rfl, rfl, by decide +kernel, rfl, by decide +kernel, by decide +kernel⟩
theorem ok_ent {f : Addr} {fd : FuncData} (F : FnM K "entries" "Panel.entries" sEnt f fd) (LP : LibP mg) (PC : PanC K C) : FnOk P w K mg base CX0 1 f fd ["self"] (spEnt C) := by
  refine okN F scEnt (fun vs H Q E h => ?_) (fun cdv A outer s H vs Q E hr h => ?_)
  · obtain ⟨_, _, _, rfl, _⟩ := h
    rfl
  · obtain ⟨a, xs, rs, rfl, ⟨dx, fs, N, R, cs, h1, h2, h3, h4, h5, h6⟩, k⟩ := h
    refine ⟨_, pss_one (ps_ret (pe_callTy call_list_of (by rfl) LP.list (by decide +kernel) (pa_cons (pe_fld (pv 0) rfl) pa_nil))), ?_⟩
    exact ⟨_, rfl, a, C, dx, fs, _, rfl, h1, PC.cls, PC.nE, h2, N, _, rfl, .inl (SqL.of h4), fun D nD => k D _ (sn nD) nD upd_same⟩
abbrev sLen : Stmt := methS 3
theorem scLen : FnScope ["self"] ["self"] (defScope sLen) := ⟨rfl, rfl, rfl, by decide +kernel, rfl, by decide +kernel, by decide +kernel⟩
theorem ok_len {f : Addr} {fd : FuncData} (F : FnM K "__len__" "Panel.__len__" sLen f fd) (L : Lib K mg) (PC : PanC K C) : FnOk P w K mg base CX0 1 f fd ["self"] (spLen C) := by
  refine okN F scLen (fun vs H Q E h => ?_) (fun cdv A outer s H vs Q E hr h => ?_)
  · obtain ⟨_, _, _, rfl, _⟩ := h
    rfl
  · obtain ⟨a, xs, rs, rfl, ⟨dx, fs, N, R, cs, h1, h2, h3, h4, h5, h6⟩, k⟩ := h
    refine ⟨_, pss_one (ps_ret (pe_callB call_len_seq (by rfl) L.len PySem.boot_len (pa_cons (pe_fld (pv 0) rfl) pa_nil))), ?_⟩
    refine ⟨_, rfl, a, C, dx, fs, _, rfl, h1, PC.cls, PC.nR, h3, R, _, rfl, .inl (SqL.of h5), ?_⟩
    rw [List.length_map, h6.len]
    exact k
abbrev sRws : Stmt := methS 2
theorem scRws : FnScope ["self", "row"] ["self"] (defScope sRws) := ⟨rfl, rfl, rfl, by decide +kernel, rfl, by decide +kernel, by decide +kernel⟩
theorem ok_rws {f : Addr} {fd : FuncData} (F : FnM K "rows" "Panel.rows" sRws f fd) (LP : LibP mg) (PC : PanC K C) : FnOk P w K mg base CX0 1 f fd ["self"] (spRws C) := by
  refine okN F scRws (fun vs H Q E h => ?_) (fun cdv A outer s H vs Q E hr h => ?_)
  · obtain ⟨_, _, _, rfl, _⟩ := h
    rfl
  · obtain ⟨a, xs, rs, rfl, ⟨dx, fs, N, R, cs, h1, h2, h3, h4, h5, h6⟩, le, k⟩ := h
    refine ⟨_, pss_one (ps_ret (pe_lc (own := [("row", 1)]) (g := gName 1) (tt := tYes) (te := tCB (fun xs H Q => ∃ p ys, xs = [V.ref p] ∧ (SqL K H p ys ∨ SqT K H p ys) ∧ ∀ l, H l = none → Q (.ref l) (upd H l (.lst ys))) (tCons (tVar 1) tNil)) rfl scRws.nd (pi_list (pe_fld (pv 0) rfl))
            (blkOk_by (N := ["self", "row"]) (sc := defScope sRws) (by decide +kernel)) (fun _ _ _ _ _ => pg_name (i := 1) scRws.nd rfl (Or.inl rfl)) (fun _ _ _ _ _ => pts_nil)
            (fun _ _ _ _ _ => pe_callTy call_list_of (by rfl) LP.list (by decide +kernel) (pa_cons (pv 1) pa_nil)))), ?_⟩
    refine ⟨_, rfl, a, C, dx, fs, _, rfl, h1, PC.cls, PC.nR, h3, R, rfl, ⟨_, SqL.of h5⟩, fun D hD => lc_list (K := K) (a := R) (xs := cs.map V.ref) (fun i H' => ∃ as : List Addr, H' D = some (.lst (as.map V.ref)) ∧ RowsAt H' as (rs.take i) ∧ (∀ c ∈ as, H c = none ∧ c ≠ D) ∧ as.Nodup ∧ Same H H') ?_ (fun i H' _ h => by obtain ⟨_, _, _, _, _, h⟩ := h; exact SqL.of (h _ _ h5)) ?_ ?_⟩
    · exact ⟨[], upd_same, .nil, (fun c hc => nomatch hc), .nil, sn hD⟩
    · rintro i y H' hi ⟨as, q1, q2, q3, qn, q4⟩
      rw [List.getElem?_map] at hi
      obtain ⟨c, hc, rfl⟩ := Option.map_eq_some_iff.mp hi
      obtain ⟨ws, hw1, hw2⟩ := h6.at hc
      refine ⟨rfl, _, rfl, c, ws.map V.str, rfl, .inl (SqL.of (q4 _ _ hw2)), fun l nl => ?_⟩
      have s5 : Same H' (upd H' l (.lst (ws.map V.str))) := sn nl
      have fl : upd H' l (.lst (ws.map V.str)) l = some (.lst (ws.map V.str)) := upd_same
      generalize upd H' l (.lst (ws.map V.str)) = H5 at s5 fl ⊢
      have nlD : l ≠ D := fun q => by
        rw [q, q1] at nl
        cases nl
      have nla : l ∉ as := fun hx => by
        obtain ⟨y, _, e⟩ := q2.strs hx
        rw [nl] at e
        cases e
      refine ⟨as.map V.ref, s5 _ _ q1, ?_, as ++ [l], by rw [upd_same, List.map_append]; rfl, ?_, ?_, ?_, fun b o e => ?_⟩
      · refine small1000 ?_
        rw [List.length_map, q2.len]
        have := List.length_take_le' i rs
        omega
      · have tk2 : rs.take (i + 1) = rs.take i ++ [ws] := by rw [List.take_succ, hw1]; rfl
        rw [tk2]
        refine RowsAt.snoc ((q2.same s5).keep fun x hx o e => ?_) ?_
        · rw [upd_ne (q3 x hx).2]
          exact e
        · rw [upd_ne nlD]
          exact fl
      · intro x hx
        rcases List.mem_append.mp hx with hx | hx
        · exact q3 x hx
        · rw [List.mem_singleton.mp hx]
          exact ⟨q4.free nl, nlD⟩
      · exact List.nodup_append.mpr ⟨qn, List.pairwise_singleton _ _, fun x hx z hz e => nla (by rw [← List.mem_singleton.mp hz, ← e]; exact hx)⟩
      · rw [upd_ne (ne_of_none e hD)]
        exact s5 _ _ (q4 _ _ e)
    · rintro H' ⟨as, q1, q2, q3, qn, q4⟩
      have lr : (cs.map V.ref).length = rs.length := by rw [List.length_map, h6.len]
      rw [lr, List.take_length] at q2
      exact k D as H' q4 hD q1 q2 q3 qn
end
end G14

set_option maxHeartbeats 8000000
namespace G14
open PySem PySem.Spec PyProof.Rows L2 G1
/-- what more is known of the class -/
structure PanX (K : PySem.W.Frag) (C : Addr) : Prop extends PanC K C where
  cc : PySem.W.findIn K (.ref C) "__class__" = some (some (.builtin "object.__class__"))
  sg : PySem.W.specialIn K (.builtin "object.__class__") "__get__" = some (some (.builtin "getset_descriptor.__get__"))
  tk : PySem.W.takesIn K (.builtin "object.__class__") = some true
  mo : PySem.W.mroIn K C (.type "object") = some true
  me : PySem.W.kitOne K (.ref C) (.ref C) = some true
  no : ∀ T : String, T = "NoneType" ∨ T = "int" ∨ T = "list" ∨ T = "tuple" → PySem.W.kitOne K (.type T) (.ref C) = some false
def DPan (K : PySem.W.Frag) (C : Addr) : V → V → Hp → Bool → Prop := fun x y H b => ∃ (a : Addr) (xs : List Str) (rs : List (List Str)), x = .ref a ∧ PanelAt H C a xs rs ∧
  ((∃ (c : Addr) (ys : List Str) (ts : List (List Str)), y = .ref c ∧ PanelAt H C c ys ts ∧ b = (decide (xs = ys) && decide (rs = ts))) ∨ (∃ T : String, TyX K H y (.type T) ∧ PySem.W.kitOne K (.type T) (.ref C) = some false ∧ b = false))
section
variable {P : Program} {w : World} {K : PySem.W.Frag} {mg : Str → Option Value} {base : Heap} {C : Addr}
abbrev sEq : Stmt := methS 4
theorem scEq : FnScope ["self", "other"] ["self", "other"] (defScope sEq) := ⟨rfl, rfl, rfl, by decide +kernel, rfl, by decide +kernel, by decide +kernel⟩
theorem ok_eq {f : Addr} {fd : FuncData} (F : FnM K "__eq__" "Panel.__eq__" sEq f fd) (LP : LibP mg) (PC : PanX K C) (gP : mg "Panel" = some (.ref C)) : FnOk P w K mg base CX0 1 f fd ["self", "other"] (spEqB (DPan K C)) := by
  refine okN F scEq (fun vs H Q E h => ?_) (fun cdv A outer s H vs Q E hr h => ?_)
  · obtain ⟨_, _, _, rfl, _⟩ := h
    rfl
  · obtain ⟨x, y, b, rfl, ⟨a, xs, rs, rfl, ⟨dx, fs, N, R, cs, h1, h2, h3, h4, h5, h6⟩, hy⟩, k⟩ := h
    have hu := hr.units
    have hu1 : (A.deeper (envOfC "Panel.__eq__" (defScope sEq) s.heap.objs.size f cdv)).units + (0 + 1) < cLine := by omega
    have hu2 : (A.deeper (envOfC "Panel.__eq__" (defScope sEq) s.heap.objs.size f cdv)).units + (1 + 1) < cLine := by omega
    refine ⟨_, pss_one (ps_ret (pe_and (pe_callB call_isi (by rfl) LP.isi (by decide +kernel) (pa_cons (pv 1) (pa_cons (pe_glob (v := .ref C) (by rfl) gP rfl) pa_nil)))
      (pe_and (pe_cmpR (op_eqW (n := 0) hu1) (pe_fld (pv 0) rfl) (pe_fld (pv 1) rfl) (nomark _)) (pe_one (pe_cmpR (op_eqW (n := 1) hu2) (pe_fld (pv 0) rfl) (pe_fld (pv 1) rfl) (nomark _)))))), ?_⟩
    rcases hy with ⟨c, ys, ts, rfl, ⟨dy, gs, N2, R2, ds, g1, g2, g3, g4, g5, g6⟩, rfl⟩ | ⟨T, ty, nk, rfl⟩
    · refine ⟨_, rfl, .ref c, .ref C, .ref C, .ref C, true, rfl, .own C, .base (.ins g1 PC.cls PC.cc PC.sg PC.tk PC.mo), PC.me, true, rfl, iteT ?_⟩
      refine ⟨_, rfl, a, C, dx, fs, _, rfl, h1, PC.cls, PC.nE, h2, _, rfl, c, C, dy, gs, _, rfl, g1, PC.cls, PC.nE, g2, _, lists_strs (SqL.of h4) (SqL.of g4), _, rfl, ?_⟩
      cases e1 : decide (xs = ys) with
      | false =>
        rw [e1] at k
        exact iteF (k H (Same.refl H))
      | true =>
        rw [e1] at k
        refine iteT ⟨_, rfl, a, C, dx, fs, _, rfl, h1, PC.cls, PC.nR, h3, _, rfl, c, C, dy, gs, _, rfl, g1, PC.cls, PC.nR, g3, _, lists_rows h5 g5 h6 g6, ?_⟩
        exact k H (Same.refl H)
    · refine ⟨_, rfl, y, .ref C, .type T, .ref C, false, rfl, .own C, ty, nk, false, rfl, iteF ?_⟩
      exact k H (Same.refl H)
end
end G14

set_option maxHeartbeats 8000000
namespace G14
open PySem PySem.Spec PyProof.Rows L2 G1
theorem Unl.same {K : PySem.W.Frag} {H H' : Hp} {v : V} {b : Bool} (h : Unl K H v b) (s : Same H H') : Unl K H' v b := by
  cases h with
  | no t n => exact .no (TyX.same t s) n
  | odd h1 h2 h3 h4 => exact .odd (s _ _ h1) h2 (h3.same s) h4
  | names h1 h2 h3 => exact .names (s _ _ h1) h2 h3
theorem RItL.ofStrs {K : PySem.W.Frag} {H : Hp} (zs : List Str) : RItL K H (zs.map V.str) (zs.map some) := by
  induction zs with
  | nil => exact .nil
  | cons z zs ih => exact .cons (.str z) ih
theorem RItL.append {K : PySem.W.Frag} {H : Hp} {vs ws : List V} {os ps : List (Option Str)} (h : RItL K H vs os) (g : RItL K H ws ps) : RItL K H (vs ++ ws) (os ++ ps) := by
  induction h with
  | nil => exact g
  | cons e _ ih => exact .cons e ih
theorem cutV_last {xs : List V} : cutV xs none (some (-1 : Int)) = xs.dropLast := by
  have e : HT.sIx xs.length xs.length (some (-1 : Int)) = xs.length - 1 := by
    unfold HT.sIx
    simp
    omega
  unfold cutV
  rw [e, List.dropLast_eq_take]
  rfl
theorem cutV_one {xs : List V} : cutV xs (some (1 : Int)) (some (2 : Int)) = (xs.drop 1).take 1 := by
  have e1 : HT.sIx xs.length 0 (some (1 : Int)) = min 1 xs.length := by
    unfold HT.sIx
    simp
  have e2 : HT.sIx xs.length xs.length (some (2 : Int)) = min 2 xs.length := by
    unfold HT.sIx
    simp
  unfold cutV
  rw [e1, e2]
  match xs with
  | [] => rfl
  | [_] => rfl
  | _ :: _ :: _ => simp
theorem same_del {A H' : Hp} {D : Addr} (s : Same A H') (n : A D = none) : Same A (delH H' D) := fun b o e => by
  rw [delH_ne (ne_of_none e n)]
  exact s b o e
theorem del_sub {H : Hp} {l : Addr} : Same (delH H l) H := fun b o e => by
  by_cases q : b = l
  · rw [q, delH_same] at e
    cases e
  · rw [delH_ne q] at e
    exact e
theorem del_mono {H H' : Hp} {l : Addr} (s : Same H H') : Same (delH H l) (delH H' l) := fun b o e => by
  by_cases q : b = l
  · rw [q, delH_same] at e
    cases e
  · rw [delH_ne q] at e ⊢
    exact s b o e
theorem del_upd {H : Hp} {l : Addr} {o : HO} : Same (delH H l) (delH (upd H l o) l) := fun b u e => by
  by_cases q : b = l
  · rw [q, delH_same] at e
    cases e
  · rw [delH_ne q] at e ⊢
    rw [upd_ne q]
    exact e
theorem cutV_from {xs : List V} (h : 1 ≤ xs.length) : cutV xs (some (1 : Int)) none = xs.drop 1 := by
  have e : HT.sIx xs.length 0 (some (1 : Int)) = 1 := by
    unfold HT.sIx
    simp
    omega
  have e2 : HT.sIx xs.length xs.length none = xs.length := rfl
  unfold cutV
  rw [e, e2]
  exact List.take_of_length_le (by rw [List.length_drop]; exact Nat.le_refl _)
theorem rows_true {K : PySem.W.Frag} {H : Hp} {xs : List Str} {as : List Addr} {rs : List (List Str)} (h : RowsAt H as rs) (hp : ∀ r ∈ rs, r.Perm xs) (le : xs.length ≤ 60) : RowVL K H xs (as.map V.ref) (rs.map fun _ => true) := by
  induction h with
  | nil => exact .nil
  | @cons a r as rs e _ ih =>
    have p := hp r List.mem_cons_self
    exact .cons (.lst e (by rw [List.length_map, p.length_eq]; exact le) (.ofStrs r) ⟨fun _ => ⟨r, rfl, p⟩, fun _ => rfl⟩) (ih fun y hy => hp y (List.mem_cons_of_mem _ hy))
theorem RowVL.append {K : PySem.W.Frag} {H : Hp} {xs : List Str} {vs ws : List V} {bs cs : List Bool} (h : RowVL K H xs vs bs) (g : RowVL K H xs ws cs) : RowVL K H xs (vs ++ ws) (bs ++ cs) := by
  induction h with
  | nil => exact g
  | cons e _ ih => exact .cons e ih
theorem unl_names {K : PySem.W.Frag} {H : Hp} {e : Addr} {zs : List Str} (h : H e = some (.lst (zs.map V.str))) (le : zs.length ≤ 40) (nm : ∀ z ∈ zs, Nm z) (nd : zs.Nodup) (l1 : 1 ≤ zs.length) : Unl K H (.ref e) true := by
  have q : Unl K H (.ref e) (!zs.isEmpty && decide zs.Nodup) := .names h (by omega) nm
  have e1 : zs.isEmpty = false := by
    cases zs with
    | nil => exact absurd l1 (by decide)
    | cons _ _ => rfl
  rw [e1, decide_eq_true nd] at q
  exact q
/-- what is in a heap and was not in an earlier one -/
def newH (H H' : Hp) : Hp := fun b => match H b with
  | none => H' b
  | some _ => none
theorem new_sub {H H' : Hp} : Same (newH H H') H' := fun b o e => by
  unfold newH at e
  cases q : H b with
  | none => rw [q] at e; exact e
  | some u => rw [q] at e; cases e
theorem new_at {H H' : Hp} {b : Addr} (h : H b = none) : newH H H' b = H' b := by
  unfold newH
  rw [h]
theorem new_none {H H' : Hp} {b : Addr} (h : H b ≠ none) : newH H H' b = none := by
  unfold newH
  cases q : H b with
  | none => exact absurd q h
  | some u => rfl
theorem same_upd {A B : Hp} {b : Addr} {o : HO} (s : Same A B) (n : A b = none) : Same A (upd B b o) := fun c u e => by
  rw [upd_ne (ne_of_none e n)]
  exact s c u e
/-- its methods are not hidden by fields -/
def Fre (H : Hp) (C a : Addr) : Prop := ∃ (dx : Addr) (fs : List (Str × V)), H a = some (.ins C dx fs) ∧ fs.lookup ("entries" : Str) = none ∧ fs.lookup ("rows" : Str) = none ∧ fs.lookup ("struck" : Str) = none ∧ fs.lookup ("with_row" : Str) = none ∧ fs.lookup ("without_row" : Str) = none ∧ fs.lookup ("renamed" : Str) = none
theorem Fre.same {H H' : Hp} {C a : Addr} (h : Fre H C a) (s : Same H H') : Fre H' C a := by
  obtain ⟨dx, fs, h1, h2⟩ := h
  exact ⟨dx, fs, s _ _ h1, h2⟩
/-- a panel made of what is right -/
theorem make_ok {K : PySem.W.Frag} {C : Addr} {H : Hp} {P : Addr → Hp → Prop} {E : XK} {e r : Addr} {zs xs : List Str} {as : List Addr} {rs : List (List Str)} (he : H e = some (.lst (zs.map V.str))) (nm : ∀ z ∈ zs, Nm z) (nd : zs.Nodup) (l1 : 1 ≤ zs.length) (l2 : zs.length ≤ 40)
    (p : xs.Perm zs) (so : sortedS xs = true) (hr : H r = some (.lst (as.map V.ref))) (ha : RowsAt H as rs) (hp : ∀ y ∈ rs, y.Perm xs) (r1 : 1 ≤ rs.length) (r2 : rs.length ≤ 40)
    (k : ∀ a H', Same H H' → H a = none → PanelAt H' C a xs rs → PanelAt (newH H H') C a xs rs → Fre (newH H H') C a → P a H') :
    ∀ a dx, H a = none → H dx = none → dx ≠ a → spInit K C [.ref a, .ref e, .ref r] (upd (upd H dx (.own a)) a (.ins C dx [])) (fun v H2 => v = .non ∧ P a H2) E := by
  intro a dx na nd2 ne
  have s1 : Same H (upd (upd H dx (.own a)) a (.ins C dx [])) := (sn nd2).trans (sn (by rw [upd_ne (Ne.symm ne)]; exact na))
  have fa : upd (upd H dx (.own a)) a (.ins C dx []) a = some (.ins C dx []) := upd_same
  generalize upd (upd H dx (.own a)) a (.ins C dx []) = H1 at s1 fa ⊢
  refine ⟨a, dx, .ref e, .ref r, true, rfl, fa, unl_names (s1 _ _ he) l2 nm nd l1, (fun q => nomatch q), fun _ => ⟨e, zs, rfl, SqL.of (s1 _ _ he), by omega, fun ys py sy => ?_⟩⟩
  have exy : ys = xs := sorted_uniq sy so (py.trans p.symm)
  subst exy
  have lra := ha.len
  have q : RowsV K H1 ys (.ref r) (!(as.map V.ref).isEmpty && (rs.map fun _ => true).all id) := .lst (s1 _ _ hr) (by rw [List.length_map]; omega) (rows_true (ha.same s1) hp (by have := p.length_eq; omega))
  have e1 : (as.map V.ref).isEmpty = false := by
    cases as with
    | nil => simp at lra; omega
    | cons _ _ => rfl
  have e2 : (rs.map fun _ => true).all id = true := by
    rw [List.all_map]
    exact List.all_eq_true.mpr fun _ _ => rfl
  rw [e1, e2] at q
  refine ⟨true, q, (fun z => nomatch z), fun _ r' as' rs' er hr' hra' hp' fs N R cs H' h1 h2 h3 h4 h5 h6 h7 h8 h9 g1 g2 b => ⟨rfl, ?_⟩⟩
  cases er
  have ers : rs' = rs := by
    rw [s1 _ _ hr] at hr'
    injection hr' with z
    injection z with z
    have eas : as = as' := by
      have inj : ∀ {x y : List Addr}, x.map V.ref = y.map V.ref → x = y := fun {x} => by
        induction x with
        | nil => intro y h; cases y with
          | nil => rfl
          | cons _ _ => cases h
        | cons x0 x ih => intro y h; cases y with
          | nil => cases h
          | cons y0 y =>
            injection h with h1 h2
            injection h1 with h3
            rw [h3, ih h2]
      exact inj z
    subst eas
    have ha1 := ha.same s1
    clear hp' hp h6 k q e1 e2 lra r1 r2 hr z ha
    induction hra' generalizing rs with
    | nil => cases ha1; rfl
    | cons e0 _ ih =>
      cases ha1 with
      | cons e3 t3 =>
        rw [e0] at e3
        injection e3 with e3
        injection e3 with e3
        rw [map_str_inj e3, ih t3]
  subst ers
  have w1 : newH H H' a = some (.ins C dx fs) := by rw [new_at na]; exact h1
  refine k a H' (fun c o ec => ?_) na ⟨dx, fs, N, R, cs, h1, h2, h3, h4, h5, h6⟩ ⟨dx, fs, N, R, cs, w1, h2, h3, ?_, ?_, h6.keep fun c hc o e => ?_⟩ ⟨dx, fs, w1, g1, g2⟩
  rotate_left
  · rw [new_at (s1.free h7)]; exact h4
  · rw [new_at (s1.free h8)]; exact h5
  · rw [new_at (s1.free (h9 c hc))]; exact e
  by_cases qc : c = a
  · rw [qc, na] at ec
    cases ec
  · exact b c o qc (s1 _ _ ec)
/-- what more is known of the class where panels are compared -/
structure PanY (K : PySem.W.Frag) (C fE : Addr) : Prop extends PanX K C where
  eq : PySem.W.findIn K (.ref C) "__eq__" = some (some (.ref fE))
  fn : PySem.W.isFn K (.ref fE) = true
  ne : PySem.W.findIn K (.ref C) "__ne__" = some (some (.builtin "object.__ne__"))
  ob : PySem.W.subIn K (.ref C) (.type "object") = some true
  nm : PySem.W.notFirst K C (.ref C) = true
  nt : ∀ T : String, T = "NoneType" ∨ T = "int" ∨ T = "list" ∨ T = "tuple" → PySem.W.notFirst K C (.type T) = true
theorem RowsAt.app {H : Hp} {as bs : List Addr} {rs ts : List (List Str)} (h : RowsAt H as rs) (g : RowsAt H bs ts) : RowsAt H (as ++ bs) (rs ++ ts) := by
  induction h with
  | nil => exact g
  | cons e _ ih => exact .cons e ih
theorem RowsAt.tk {H : Hp} {as : List Addr} {rs : List (List Str)} (h : RowsAt H as rs) (m : Nat) : RowsAt H (as.take m) (rs.take m) := by
  induction h generalizing m with
  | nil => rw [List.take_nil, List.take_nil]; exact .nil
  | cons e _ ih =>
    cases m with
    | zero => exact .nil
    | succ m => exact .cons e (ih m)
theorem RowsAt.dr {H : Hp} {as : List Addr} {rs : List (List Str)} (h : RowsAt H as rs) (m : Nat) : RowsAt H (as.drop m) (rs.drop m) := by
  induction h generalizing m with
  | nil => rw [List.drop_nil, List.drop_nil]; exact .nil
  | cons e t ih =>
    cases m with
    | zero => exact .cons e t
    | succ m => exact ih m
theorem RowsAt.rev {H : Hp} {as : List Addr} {rs : List (List Str)} (h : RowsAt H as rs) : RowsAt H as.reverse rs.reverse := by
  induction h with
  | nil => exact .nil
  | cons e _ ih =>
    rw [List.reverse_cons, List.reverse_cons]
    exact ih.snoc e
end G14

set_option maxHeartbeats 4000000
/-! len(x) by an own __len__ -/
namespace G1
open PySem PySem.Spec PyProof.Rows L2
def rLenO (C : Addr) (sp : Sp) : List V → Hp → VK → Prop := fun xs H Q => ∃ (a dx : Addr) (fs : List (Str × V)) (n : Int), xs = [.ref a] ∧ H a = some (.ins C dx fs) ∧ 0 ≤ n ∧ n < 2 ^ 63 ∧ sp [.ref a] H (fun v H' => v = .int n ∧ Q (.int n) H') E0
section
variable {X : Cx}
theorem call_lenO {C f : Addr} {fd : FuncData} {ps : List Str} {k : Nat} {sp : Sp} (F : FnOk X.prog X.w X.K X.mg X.base CX0 k f fd ps sp) (hr : Room (k + 1) X.A)
    (hs : PySem.W.findIn X.K (.ref C) "__len__" = some (some (.ref f))) (hf : PySem.W.isFn X.K (.ref f) = true) (hb : Binds X.K fd ps []) : CallR X (.builtin "len") (rLenO C sp) := by
  intro pins s σ H xs us Q I r h
  obtain ⟨a, dx, fs, n, rfl, ha, n0, n1, hsp⟩ := h
  obtain ⟨u, rfl, ru⟩ := vals1 r
  obtain rfl : u = Value.ref a := ru
  obtain ⟨mA, J, _⟩ := ins_get I.hok ha
  obtain ⟨od, J, _⟩ := J.look
  obtain ⟨m, hF⟩ := I.fr
  have hr1 : Room k X.A.in1 := hr.in1
  refine PySem.W.len_K hF I.ok.mod.kin J hs hf ?_
  have r2 : Vals [V.ref a] [Value.ref a] := .cons rfl .nil
  have len := F.len _ _ _ _ hsp
  have e0 : Env0 X.prog X.w X.K X.mg X.base X.A.in1 X.stack s H := by
    have e := I.env0
    exact ⟨e.frames, e.mod, e.bs, e.bsz, e.funs, e.frf, e.hok, e.bare⟩
  refine wpAny_call (codeAny_mono (F.run X.A.in1 X.stack s H ⟨[.ref a], []⟩ [.ref a] [V.ref a] _ E0 hr1 e0 (by
    have z := hb s [.ref a] I.kIn (by simpa using len)
    simpa using z) r2 hsp) fun r s' hq => ?_)
  match r, hq with
  | .error e, hq => exact pass0 (X := X) pins σ H s e s' I hq
  | .ok (.ret w), hq =>
    obtain ⟨z, H', I', rz, ez, q⟩ := I.after hq
    subst ez
    obtain ⟨t, rfl⟩ := rz
    exact ⟨⟨n0, n1⟩, .int n, H', I'.tok _, ⟨_, rfl⟩, q⟩
end
end G1

set_option maxHeartbeats 8000000
namespace G14
open PySem PySem.Spec PyProof.Rows L2 G1
/-! ### data that is small -/
structure FineN (d : PyData) (n w : Nat) : Prop where
  a : PyData.canLay0 d = true
  b : PyData.depth d ≤ n
  c : PyData.weight d ≤ w
  e : d.intsShort 13 = true
  f : d.showable = true
  g : d.hasDict = false
structure FineAll (ds : List PyData) (n w : Nat) : Prop where
  a : PyData.canLayAll0 ds = true
  b : PyData.depthAll ds ≤ n
  c : PyData.weightAll ds ≤ w
  e : PyData.intsShortAll 13 ds = true
  f : PyData.showableAll ds = true
  g : PyData.hasDictAll ds = false
theorem FineN.le {d : PyData} {n w : Nat} (h : FineN d n w) (hn : n ≤ 10) (hw : w ≤ 1000) : d.shown.length ≤ sizeLine := by
  have l : PyData.layable0 d = true := by
    unfold PyData.layable0
    rw [Bool.and_eq_true, Bool.and_eq_true]
    exact ⟨⟨h.a, decide_eq_true (Nat.le_trans (Nat.le_trans h.b hn) (by decide))⟩, decide_eq_true (Nat.le_trans (Nat.le_trans h.c hw) (by decide))⟩
  exact Nat.le_trans (shown_le13 l h.e) (by decide)
theorem FineN.shaped {d : PyData} {n w : Nat} (h : FineN d n w) (hn : n ≤ 10) : SeqAt.shaped d = true := by
  unfold SeqAt.shaped
  rw [Bool.and_eq_true]
  exact ⟨h.a, decide_eq_true (Nat.le_trans (Nat.le_trans h.b hn) (by decide))⟩
theorem FineN.mono {d : PyData} {n w n' w' : Nat} (h : FineN d n w) (hn : n ≤ n') (hw : w ≤ w') : FineN d n' w' := ⟨h.a, Nat.le_trans h.b hn, Nat.le_trans h.c hw, h.e, h.f, h.g⟩
theorem FineAll.nil (n w : Nat) : FineAll [] n w := by
  constructor <;> simp [PyData.canLayAll0, PyData.depthAll, PyData.weightAll, PyData.intsShortAll, PyData.showableAll, PyData.hasDictAll]
theorem FineAll.cons {d : PyData} {ds : List PyData} {n w v : Nat} (h : FineN d n w) (k : FineAll ds n v) : FineAll (d :: ds) n (w + 1 + v) := by
  obtain ⟨a1, a2, a3, a4, a5, a6⟩ := h
  obtain ⟨b1, b2, b3, b4, b5, b6⟩ := k
  constructor <;> simp only [PyData.canLayAll0, PyData.depthAll, PyData.weightAll, PyData.intsShortAll, PyData.showableAll, PyData.hasDictAll, a1, a4, a5, a6, b1, b4, b5, b6, Bool.and_self, Bool.or_self] <;> omega
theorem FineAll.list {ds : List PyData} {n w : Nat} (h : FineAll ds n w) : FineN (.list ds) (n + 1) w := by
  obtain ⟨a1, a2, a3, a4, a5, a6⟩ := h
  constructor <;> simp only [PyData.canLay0, PyData.depth, PyData.weight, PyData.intsShort, PyData.showable, PyData.hasDict, a1, a4, a5, a6] <;> omega
theorem strOk_of {z : Str} (h : Letters z) : PyData.strOk z = true := by
  unfold PyData.strOk
  rw [Array.all_eq_true_iff_forall_mem]
  intro c hc
  have := h c (Array.mem_toList_iff.mpr hc)
  exact decide_eq_true (by omega)
theorem fn_str {z : Str} (n : Nat) (h : Nm z) : FineN (.str z) n 8 := by
  have hl' : z.cps.size ≤ 8 := h.2.1
  have ok := strOk_of h.2.2
  constructor <;> simp only [PyData.canLay0, PyData.depth, PyData.weight, PyData.intsShort, PyData.showable, PyData.hasDict, ok] <;> omega
theorem fn_int (n : Nat) {m : Nat} (h1 : 1 ≤ m) (h4 : m ≤ 4) : FineN (.int (m : Int)) n 8 := by
  have e : m = 1 ∨ m = 2 ∨ m = 3 ∨ m = 4 := by omega
  have d : ∀ i ∈ [1, 2, 3, 4], PyData.canLay0 (.int (i : Int)) = true ∧ PyData.depth (.int (i : Int)) = 0 ∧ PyData.weight (.int (i : Int)) ≤ 8 ∧ PyData.intsShort 13 (.int (i : Int)) = true ∧ PyData.showable (.int (i : Int)) = true ∧ PyData.hasDict (.int (i : Int)) = false := by
    decide +kernel
  have hm : (m : Int) ∈ [1, 2, 3, 4] := by
    rcases e with rfl | rfl | rfl | rfl <;> simp
  obtain ⟨d1, d2, d3, d4, d5, d6⟩ := d _ hm
  exact ⟨d1, by rw [d2]; exact Nat.zero_le _, d3, d4, d5, d6⟩
def rd (r : List Str) : PyData := .list (r.map PyData.str)
def rsd (rs : List (List Str)) : PyData := .list (rs.map rd)
theorem fine_strs {r : List Str} (h : ∀ z ∈ r, Nm z) : FineAll (r.map PyData.str) 0 (9 * r.length) := by
  induction r with
  | nil => exact .nil _ _
  | cons z r ih =>
    have q := FineAll.cons (fn_str 0 (h z List.mem_cons_self)) (ih fun y hy => h y (List.mem_cons_of_mem _ hy))
    rw [List.map_cons, List.length_cons, show 9 * (r.length + 1) = 8 + 1 + 9 * r.length by omega]
    exact q
theorem fine_row {r : List Str} (h : ∀ z ∈ r, Nm z) (l : r.length ≤ 7) : FineN (rd r) 1 63 := (fine_strs h).list.mono (Nat.le_refl _) (by omega)
theorem fine_rows {rs : List (List Str)} (h : ∀ r ∈ rs, (∀ z ∈ r, Nm z) ∧ r.length ≤ 7) : FineAll (rs.map rd) 1 (64 * rs.length) := by
  induction rs with
  | nil => exact .nil _ _
  | cons r rs ih =>
    have q := FineAll.cons (fine_row (h r List.mem_cons_self).1 (h r List.mem_cons_self).2) (ih fun y hy => h y (List.mem_cons_of_mem _ hy))
    rw [List.map_cons, List.length_cons, show 64 * (rs.length + 1) = 63 + 1 + 64 * rs.length by omega]
    exact q
theorem fine_rsd {rs : List (List Str)} (h : ∀ r ∈ rs, (∀ z ∈ r, Nm z) ∧ r.length ≤ 7) (l : rs.length ≤ 4) : FineN (rsd rs) 2 256 := (fine_rows h).list.mono (Nat.le_refl _) (by omega)
theorem eqv_fine {d : PyData} {n w : Nat} (h : FineN d n w) : PyData.eqv d d = true := SeqAt.eqv_refl d h.a
theorem dps_strs {K : PySem.W.Frag} {H : Hp} (r : List Str) : DpAll K H (r.map V.str) (r.map PyData.str) := by
  induction r with
  | nil => exact .nil
  | cons z r ih => exact .cons (.str z) ih
theorem dp_row {K : PySem.W.Frag} {H : Hp} {a : Addr} {r : List Str} (h : H a = some (.lst (r.map V.str))) : Dp K H (.ref a) (rd r) := .lst (SqL.of h) (dps_strs r)
theorem dps_rows {K : PySem.W.Frag} {H : Hp} {as : List Addr} {rs : List (List Str)} (h : RowsAt H as rs) : DpAll K H (as.map V.ref) (rs.map rd) := by
  induction h with
  | nil => exact .nil
  | cons e _ ih => exact .cons (dp_row e) ih
theorem dp_rows {K : PySem.W.Frag} {H : Hp} {a : Addr} {as : List Addr} {rs : List (List Str)} (h : H a = some (.lst (as.map V.ref))) (r : RowsAt H as rs) : Dp K H (.ref a) (rsd rs) := .lst (SqL.of h) (dps_rows r)
/-- [list(row) for row in rows] -/
theorem lc_rows {K : PySem.W.Frag} {R : Addr} {as : List Addr} {rs : List (List Str)} {g : TG} {tt : TT} {te : TE} {vs : List Nat} {σ : L2.St} {H1 : Hp} {D : Addr} {Qd : Hp → Prop} (hR : H1 R = some (.lst (as.map V.ref))) (hra : RowsAt H1 as rs) (le : rs.length ≤ 60) (hD : H1 D = none)
    (hst : ∀ (c : Addr) (H' : Hp) (F : V → Hp → Prop) (E : Hp → Prop), (∃ p ys, [V.ref c] = [V.ref p] ∧ (SqL K H' p ys ∨ SqT K H' p ys) ∧ ∀ l, H' l = none → F (.ref l) (upd H' l (.lst ys))) →
      g (.ref c) (wipe σ vs) H' fun σ2 H2 => wipe σ2 vs = wipe σ vs ∧ tt σ2 H2 fun b H3 => if b = true then te σ2 H3 fun y H4 => F y H4 else E H3)
    (k : ∀ (ls : List Addr) (H' : Hp), H' D = some (.lst (ls.map V.ref)) → RowsAt H' ls rs → (∀ c ∈ ls, H1 c = none ∧ c ≠ D) → ls.Nodup → Same H1 H' → Qd H') :
    ∃ W : Nat → Nat → Hp → Prop, (∃ m, W 0 m (upd H1 D (.lst []))) ∧ ∀ i m H, W i m H →
      ((Itl K R).stop i H ∧ Qd H) ∨ ((Itl K R).go i H ∧ ∃ Nx : Hp → Prop, (∀ H', Nx H' → ∃ m', m' < m ∧ W (i + 1) m' H') ∧ ∀ x H', (Itl K R).yld i H x H' → g x (wipe σ vs) H' fun σ2 H2 => wipe σ2 vs = wipe σ vs ∧ tt σ2 H2 fun b H3 =>
        if b = true then te σ2 H3 fun y H4 => ∃ acc, H4 D = some (.lst acc) ∧ acc.length < sizeLine ∧ Nx (upd H4 D (.lst (acc ++ [y]))) else Nx H3) := by
  refine lc_list (K := K) (a := R) (xs := as.map V.ref) (fun i H' => ∃ ls : List Addr, H' D = some (.lst (ls.map V.ref)) ∧ RowsAt H' ls (rs.take i) ∧ (∀ c ∈ ls, H1 c = none ∧ c ≠ D) ∧ ls.Nodup ∧ Same H1 H') ?_ (fun i H' _ h => by obtain ⟨_, _, _, _, _, h⟩ := h; exact SqL.of (h _ _ hR)) ?_ ?_
  · exact ⟨[], upd_same, .nil, (fun c hc => nomatch hc), .nil, sn hD⟩
  · rintro i y H' hi ⟨ls, q1, q2, q3, qn, q4⟩
    rw [List.getElem?_map] at hi
    obtain ⟨c, hc, rfl⟩ := Option.map_eq_some_iff.mp hi
    obtain ⟨ws, hw1, hw2⟩ := hra.at hc
    refine hst c H' _ _ ⟨c, ws.map V.str, rfl, .inl (SqL.of (q4 _ _ hw2)), fun l nl => ?_⟩
    have s5 : Same H' (upd H' l (.lst (ws.map V.str))) := sn nl
    have fl : upd H' l (.lst (ws.map V.str)) l = some (.lst (ws.map V.str)) := upd_same
    generalize upd H' l (.lst (ws.map V.str)) = H5 at s5 fl ⊢
    have nlD : l ≠ D := fun q => by
      rw [q, q1] at nl
      cases nl
    have nla : l ∉ ls := fun hx => by
      obtain ⟨y, _, e⟩ := q2.strs hx
      rw [nl] at e
      cases e
    refine ⟨ls.map V.ref, s5 _ _ q1, ?_, ls ++ [l], by rw [upd_same, List.map_append]; rfl, ?_, ?_, ?_, fun b o e => ?_⟩
    · refine small1000 ?_
      rw [List.length_map, q2.len]
      have := List.length_take_le' i rs
      omega
    · have tk2 : rs.take (i + 1) = rs.take i ++ [ws] := by rw [List.take_succ, hw1]; rfl
      rw [tk2]
      refine RowsAt.snoc ((q2.same s5).keep fun x hx o e => ?_) ?_
      · rw [upd_ne (q3 x hx).2]
        exact e
      · rw [upd_ne nlD]
        exact fl
    · intro x hx
      rcases List.mem_append.mp hx with hx | hx
      · exact q3 x hx
      · rw [List.mem_singleton.mp hx]
        exact ⟨q4.free nl, nlD⟩
    · exact List.nodup_append.mpr ⟨qn, List.pairwise_singleton _ _, fun x hx z hz e => nla (by rw [← List.mem_singleton.mp hz, ← e]; exact hx)⟩
    · rw [upd_ne (ne_of_none e hD)]
      exact s5 _ _ (q4 _ _ e)
  · rintro H' ⟨ls, q1, q2, q3, qn, q4⟩
    have lr : (as.map V.ref).length = rs.length := by rw [List.length_map, hra.len]
    rw [lr, List.take_length] at q2
    exact k ls H' q1 q2 q3 qn q4
end G14

set_option maxHeartbeats 8000000
namespace G14
open PySem PySem.Spec PyProof.Rows L2 G1
/-- a statement that is never come to -/
theorem ps_never {X : Cx} {st : Stmt} : PS X st (fun _ _ _ => False) := ⟨fun _ _ _ _ _ _ h => h.elim⟩
/-- a comprehension over zip of two lists, the second one no longer -/
theorem lc_zip {K : PySem.W.Frag} {a b : Addr} {xs ys : List V} {g : TG} {tt : TT} {te : TE} {vs : List Nat} {σ : L2.St} {H1 : Hp} {D : Addr} {Qd : Hp → Prop} (hl : ys.length ≤ xs.length) (Pv : Nat → Hp → Prop) (h0 : Pv 0 (upd H1 D (.lst []))) (hq : ∀ i H, Pv i H → SqL K H a xs ∧ SqL K H b ys)
    (hs : ∀ (i : Nat) (x y : V) (T : Addr) (H : Hp), xs[i]? = some x → ys[i]? = some y → Pv i H → H T = none → g (.ref T) (wipe σ vs) (upd H T (.tup [x, y])) fun σ2 H2 => wipe σ2 vs = wipe σ vs ∧ tt σ2 H2 fun b H3 =>
      if b = true then te σ2 H3 fun y H4 => ∃ acc, H4 D = some (.lst acc) ∧ acc.length < sizeLine ∧ Pv (i + 1) (upd H4 D (.lst (acc ++ [y]))) else Pv (i + 1) H3) (hd : ∀ H, Pv ys.length H → Qd H) :
    ∃ W : Nat → Nat → Hp → Prop, (∃ m, W 0 m (upd H1 D (.lst []))) ∧ ∀ i m H, W i m H →
      ((Itz K a b).stop i H ∧ Qd H) ∨ ((Itz K a b).go i H ∧ ∃ Nx : Hp → Prop, (∀ H', Nx H' → ∃ m', m' < m ∧ W (i + 1) m' H') ∧ ∀ v H', (Itz K a b).yld i H v H' → g v (wipe σ vs) H' fun σ2 H2 => wipe σ2 vs = wipe σ vs ∧ tt σ2 H2 fun b H3 =>
        if b = true then te σ2 H3 fun y H4 => ∃ acc, H4 D = some (.lst acc) ∧ acc.length < sizeLine ∧ Nx (upd H4 D (.lst (acc ++ [y]))) else Nx H3) := by
  refine ⟨fun i m H => m = ys.length - i ∧ i ≤ ys.length ∧ Pv i H, ⟨ys.length, rfl, Nat.zero_le _, h0⟩, ?_⟩
  rintro i m H ⟨rfl, hi, p⟩
  obtain ⟨qx, qy⟩ := hq i H p
  by_cases lt : i < ys.length
  · have e1 : xs[i]? = some (xs[i]'(by omega)) := List.getElem?_eq_getElem _
    have e2 : ys[i]? = some ys[i] := List.getElem?_eq_getElem lt
    refine .inr ⟨⟨xs, ys, _, _, qx, qy, e1, e2⟩, Pv (i + 1), fun H' z => ⟨ys.length - (i + 1), by omega, rfl, lt, z⟩, fun v H' z => ?_⟩
    obtain ⟨T, x, y, rfl, nT, rfl, f1, f2⟩ := z
    exact hs i x y T H (f1 xs qx) (f2 ys qy) p nT
  · have e : i = ys.length := by omega
    exact .inl ⟨⟨xs, ys, qx, qy, .inr (by omega)⟩, hd H (e ▸ p)⟩
/-- .. over enumerate of a list -/
theorem lc_enum {K : PySem.W.Frag} {a : Addr} {xs : List V} {g : TG} {tt : TT} {te : TE} {vs : List Nat} {σ : L2.St} {H1 : Hp} {D : Addr} {Qd : Hp → Prop} (Pv : Nat → Hp → Prop) (h0 : Pv 0 (upd H1 D (.lst []))) (hq : ∀ i H, Pv i H → SqL K H a xs)
    (hs : ∀ (i : Nat) (x : V) (T : Addr) (H : Hp), xs[i]? = some x → Pv i H → H T = none → g (.ref T) (wipe σ vs) (upd H T (.tup [.int (i : Nat), x])) fun σ2 H2 => wipe σ2 vs = wipe σ vs ∧ tt σ2 H2 fun b H3 =>
      if b = true then te σ2 H3 fun y H4 => ∃ acc, H4 D = some (.lst acc) ∧ acc.length < sizeLine ∧ Pv (i + 1) (upd H4 D (.lst (acc ++ [y]))) else Pv (i + 1) H3) (hd : ∀ H, Pv xs.length H → Qd H) :
    ∃ W : Nat → Nat → Hp → Prop, (∃ m, W 0 m (upd H1 D (.lst []))) ∧ ∀ i m H, W i m H →
      ((Ite K a).stop i H ∧ Qd H) ∨ ((Ite K a).go i H ∧ ∃ Nx : Hp → Prop, (∀ H', Nx H' → ∃ m', m' < m ∧ W (i + 1) m' H') ∧ ∀ v H', (Ite K a).yld i H v H' → g v (wipe σ vs) H' fun σ2 H2 => wipe σ2 vs = wipe σ vs ∧ tt σ2 H2 fun b H3 =>
        if b = true then te σ2 H3 fun y H4 => ∃ acc, H4 D = some (.lst acc) ∧ acc.length < sizeLine ∧ Nx (upd H4 D (.lst (acc ++ [y]))) else Nx H3) := by
  refine ⟨fun i m H => m = xs.length - i ∧ i ≤ xs.length ∧ Pv i H, ⟨xs.length, rfl, Nat.zero_le _, h0⟩, ?_⟩
  rintro i m H ⟨rfl, hi, p⟩
  have qx := hq i H p
  by_cases lt : i < xs.length
  · have e1 : xs[i]? = some xs[i] := List.getElem?_eq_getElem lt
    refine .inr ⟨⟨xs, _, qx, e1⟩, Pv (i + 1), fun H' z => ⟨xs.length - (i + 1), by omega, rfl, lt, z⟩, fun v H' z => ?_⟩
    obtain ⟨T, x, rfl, nT, rfl, f1⟩ := z
    exact hs i x T H (f1 xs qx) p nT
  · have e : i = xs.length := by omega
    exact .inl ⟨⟨xs, qx, by omega⟩, hd H (e ▸ p)⟩
theorem cut1 {xs : List V} : cutV xs (some (1 : Int)) none = xs.drop 1 := by
  cases xs with
  | nil => rfl
  | cons x xs => exact cutV_from (by simp)
/-- one text ahead of another one -/
def ltB (a b : Str) : Bool := decide (a.cps.toList < b.cps.toList)
def ascB (zs : List Str) : Bool := (zs.zip (zs.drop 1)).all fun p => ltB p.1 p.2
def lotB (xs zs : List Str) : Bool := zs.all (fun z => decide (z ∈ xs)) && ascB zs
def spAsc (K : PySem.W.Frag) : Sp := fun vs H Q _ => ∃ (a : Addr) (zs : List Str), vs = [.ref a] ∧ SqL K H a (zs.map V.str) ∧ zs.length ≤ 1000 ∧ ∀ H', Same H H' → Q (.bl (ascB zs)) H'
def spIsLot (K : PySem.W.Frag) : Sp := fun vs H Q _ => ∃ (n v : Addr) (xs zs : List Str), vs = [.ref n, .ref v] ∧ SqL K H n (xs.map V.str) ∧ H v = some (.lst (zs.map V.str)) ∧ zs.length ≤ 1000 ∧ ∀ H', Same H H' → Q (.bl (lotB xs zs)) H'
def spIsField (K : PySem.W.Frag) : Sp := fun vs H Q _ => ∃ (n v : Addr) (xs zs : List Str), vs = [.ref n, .ref v] ∧ SqL K H n (xs.map V.str) ∧ H v = some (.lst (zs.map V.str)) ∧ zs.length ≤ 1000 ∧ ∀ H', Same H H' → Q (.bl (lotB xs zs && decide (0 < zs.length))) H'
def spChkF (K : PySem.W.Frag) : Sp := fun vs H Q _ => ∃ (n v : Addr) (xs zs : List Str), vs = [.ref n, .ref v] ∧ SqL K H n (xs.map V.str) ∧ H v = some (.lst (zs.map V.str)) ∧ zs.length ≤ 1000 ∧ lotB xs zs = true ∧ 0 < zs.length ∧ ∀ H', Same H H' → Q .non H'
def spChkN (K : PySem.W.Frag) : Sp := fun vs H Q _ => ∃ (n : Addr) (xs : List Str) (z : Str), vs = [.ref n, .str z] ∧ SqL K H n (xs.map V.str) ∧ z ∈ xs ∧ Q .non H
def spIsCount : Sp := fun vs H Q _ => ∃ i : Int, vs = [.int i] ∧ Q (.bl (decide (0 ≤ i))) H
def spChkAt : Sp := fun vs H Q _ => ∃ m i : Int, vs = [.int m, .int i] ∧ 0 ≤ i ∧ i < m ∧ Q .non H
def spChkP (C : Addr) : Sp := fun vs H Q _ => ∃ (a dx : Addr) (fs : List (Str × V)), vs = [.ref a] ∧ H a = some (.ins C dx fs) ∧ Q .non H
structure LibZ (mg : Str → Option Value) : Prop where
  zip : mg "zip" = none
  enum : mg "enumerate" = none
  int : mg "int" = none
  bool : mg "bool" = none
section
variable {P : Program} {w : World} {K : PySem.W.Frag} {mg : Str → Option Value} {base : Heap} {C : Addr}
abbrev sAsc : Stmt := top 14
abbrev nAsc : List Str := ["values", "low", "high"]
theorem scAsc : FnScope nAsc ["values"] (defScope sAsc) := ⟨rfl, rfl, rfl, by decide +kernel, rfl, by decide +kernel, by decide +kernel⟩
theorem ok_asc {f : Addr} {fd : FuncData} (F : FnP K "is_ascending" sAsc f fd) (LP : LibP mg) (LZ : LibZ mg) : FnOk P w K mg base CX0 1 f fd ["values"] (spAsc K) := by
  refine okN F scAsc (fun vs H Q E h => ?_) (fun cdv A outer s H vs Q E hr h => ?_)
  · obtain ⟨_, _, rfl, _⟩ := h
    rfl
  · obtain ⟨a, zs, rfl, hS, hl, k⟩ := h
    refine ⟨_, pss_one (ps_ret (pe_callB (cr_all rfl) (by rfl) LP.all (by decide +kernel) (pa_cons
      (pe_lc (own := [("low", 1), ("high", 2)]) (g := gTup K 2 (gCons (gName 1) (gCons (gName 2) gNil))) (tt := tYes) (te := tOp (fun x y H Q => ∃ i j, x = .str i ∧ y = .str j ∧ Q (.bl (decide (i.cps.toList < j.cps.toList))) H) (tVar 1) (tVar 2)) rfl scAsc.nd
        (pi_zip (by rfl) LZ.zip (pa_cons (pv 0) (pa_cons (pe_slice sl_list (pv 0) (po_some pe_int) po_none) pa_nil)))
        (blkOk_by (N := nAsc) (sc := defScope sAsc) (by decide +kernel)) (fun _ _ _ _ _ => pg_tup (n := 2) (by rfl) (pgs_cons (pg_name (i := 1) scAsc.nd rfl (Or.inl rfl)) (pgs_cons (pg_name (i := 2) scAsc.nd rfl (Or.inl rfl)) pgs_nil))) (fun _ _ _ _ _ => pts_nil)
        (fun _ _ _ _ _ => pe_cmpR op_lt_str (pv 1) (pv 2) (by rfl))) pa_nil))), ?_⟩
    refine ⟨_, rfl, _, rfl, _, rfl, a, _, rfl, hS, fun c nc => ?_⟩
    rw [cut1, ← List.map_drop]
    have s1 : Same H (upd H c (.lst ((zs.drop 1).map V.str))) := sn nc
    have fc : upd H c (.lst ((zs.drop 1).map V.str)) c = some (.lst ((zs.drop 1).map V.str)) := upd_same
    generalize upd H c (.lst ((zs.drop 1).map V.str)) = H1 at s1 fc ⊢
    refine ⟨a, c, _, _, rfl, s1.seq hS, SqL.of fc, fun D hD => lc_zip (K := K) (a := a) (b := c) (xs := zs.map V.str) (ys := (zs.drop 1).map V.str) (by simp)
      (fun i H' => H' D = some (.lst (((zs.zip (zs.drop 1)).take i).map fun p => V.bl (ltB p.1 p.2))) ∧ Same H1 H') ⟨upd_same, sn hD⟩ (fun i H' h => ⟨(s1.trans h.2).seq hS, SqL.of (h.2 _ _ fc)⟩) ?_ ?_⟩
    · rintro i x y T H' hx hy ⟨q1, q2⟩ nT
      rw [List.getElem?_map] at hx hy
      obtain ⟨z1, h1, rfl⟩ := Option.map_eq_some_iff.mp hx
      obtain ⟨z2, h2, rfl⟩ := Option.map_eq_some_iff.mp hy
      have hz : (zs.zip (zs.drop 1))[i]? = some (z1, z2) := by
        rw [List.getElem?_zip_eq_some]
        exact ⟨h1, h2⟩
      refine ⟨T, _, rfl, SqT.of upd_same, rfl, _, _, rfl, _, _, rfl, rfl, rfl, _, rfl, _, rfl, _, _, rfl, rfl, ?_⟩
      refine ⟨_, (sn nT) _ _ q1, ?_, ?_, fun b o e => ?_⟩
      · refine small1000 ?_
        rw [List.length_map]
        have := List.length_take_le' i (zs.zip (zs.drop 1))
        rw [List.length_zip] at this
        omega
      · rw [upd_same, List.take_succ, hz, List.map_append]
        rfl
      · rw [upd_ne (ne_of_none e hD)]
        exact (sn nT) _ _ (q2 _ _ e)
    · rintro H' ⟨q1, q2⟩
      have ln : ((zs.drop 1).map V.str).length = (zs.zip (zs.drop 1)).length := by
        rw [List.length_map, List.length_zip, List.length_drop]
        omega
      rw [ln, List.take_length] at q1
      refine ⟨D, (zs.zip (zs.drop 1)).map fun p => ltB p.1 p.2, rfl, SqL.of (by rw [q1, List.map_map]; rfl), ?_⟩
      rw [List.all_map]
      exact k H' (s1.trans q2)
abbrev sIsLot : Stmt := top 16
theorem scIsLot : FnScope ["entries", "value", "name"] ["entries", "value"] (defScope sIsLot) := ⟨rfl, rfl, rfl, by decide +kernel, rfl, by decide +kernel, by decide +kernel⟩
theorem ok_isLot {f fA : Addr} {fd fdA : FuncData} (F : FnP K "is_lot" sIsLot f fd) (LP : LibP mg) (FA : FnP K "is_ascending" sAsc fA fdA) (gA : mg "is_ascending" = some (.ref fA)) (GA : FnOk P w K mg base CX0 1 fA fdA ["values"] (spAsc K)) : FnOk P w K mg base CX0 2 f fd ["entries", "value"] (spIsLot K) := by
  have bA : Binds K fdA ["values"] [] := FA.bindsN fun _ _ _ _ _ _ us hl => match us, hl with | [_], _ => rfl
  refine okN F scIsLot (fun vs H Q E h => ?_) (fun cdv A outer s H vs Q E hr h => ?_)
  · obtain ⟨_, _, _, _, rfl, _⟩ := h
    rfl
  · obtain ⟨n, v, xs, zs, rfl, hn, hv, hl, k⟩ := h
    refine ⟨_, pss_cons (ps_if (pt_not (pt_val (pe_callB call_isi (by rfl) LP.isi (by decide +kernel) (pa_cons (pv 1) (pa_cons (pe_bltn (v := .ty "list") (by rfl) LP.list (by decide +kernel) rfl) pa_nil))))) (pss_one (ps_ret pe_bl)) pss_nil)
      (pss_one (ps_ret (pe_and (pe_callB (cr_all rfl) (by rfl) LP.all (by decide +kernel) (pa_cons
          (pe_lc (own := [("name", 2)]) (g := gName 2) (tt := tYes) (te := tOp (rIn K false) (tVar 2) (tVar 0)) rfl scIsLot.nd (pi_list (pv 1))
            (blkOk_by (N := ["entries", "value", "name"]) (sc := defScope sIsLot) (by decide +kernel)) (fun _ _ _ _ _ => pg_name (i := 2) scIsLot.nd rfl (Or.inl rfl)) (fun _ _ _ _ _ => pts_nil)
            (fun _ _ _ _ _ => pe_cmpR op_in_seq (pv 2) (pv 0) (by rfl))) pa_nil))
        (pe_one (pe_call GA hr (by rfl) gA FA.kp bA .nil pass0 (pa_cons (pv 1) pa_nil)))))), ?_⟩
    refine ⟨_, rfl, .ref v, .ty "list", .type "list", .type "list", true, rfl, .ty _, .base (.lst hv), kit_ty (by decide +kernel), true, rfl, iteF ?_⟩
    refine ⟨_, rfl, v, rfl, ⟨_, SqL.of hv⟩, fun D hD => lc_list (K := K) (a := v) (xs := zs.map V.str) (fun i H' => H' D = some (.lst ((zs.take i).map fun z => V.bl (decide (z ∈ xs)))) ∧ Same H H') ⟨upd_same, sn hD⟩ (fun i H' _ h => SqL.of (h.2 _ _ hv)) ?_ ?_⟩
    · rintro i y H' hi ⟨q1, q2⟩
      rw [List.getElem?_map] at hi
      obtain ⟨z, hz, rfl⟩ := Option.map_eq_some_iff.mp hi
      refine ⟨rfl, _, rfl, _, rfl, n, xs.map V.str, rfl, .inl (q2.seq hn), rfl, flat_strs, _, q1, ?_, ?_, fun b o e => ?_⟩
      · refine small1000 ?_
        rw [List.length_map]
        have := List.length_take_le' i zs
        omega
      · rw [upd_same, List.take_succ, hz, List.map_append, inV_str]
        rfl
      · rw [upd_ne (ne_of_none e hD)]
        exact q2 _ _ e
    · rintro H' ⟨q1, q2⟩
      rw [List.length_map, List.take_length] at q1
      refine ⟨D, zs.map fun z => decide (z ∈ xs), rfl, SqL.of (by rw [q1, List.map_map]; rfl), _, rfl, ?_⟩
      rw [List.all_map]
      refine ite2 (fun h1 => ?_) (fun h1 => ?_)
      · refine ⟨_, rfl, v, zs, rfl, SqL.of (q2 _ _ hv), hl, fun H2 s2 => ?_⟩
        have e : lotB xs zs = ascB zs := by
          unfold lotB
          rw [show zs.all (fun z => decide (z ∈ xs)) = true from h1, Bool.true_and]
        rw [← e]
        exact k H2 (q2.trans s2)
      · have e : lotB xs zs = false := by
          unfold lotB
          rw [show zs.all (fun z => decide (z ∈ xs)) = false from Bool.eq_false_iff.mpr h1, Bool.false_and]
        rw [e] at k
        exact k H' q2
abbrev sIsField : Stmt := top 17
theorem scIsField : FnScope ["entries", "value"] ["entries", "value"] (defScope sIsField) := ⟨rfl, rfl, rfl, by decide +kernel, rfl, by decide +kernel, by decide +kernel⟩
theorem ok_isField {f fA : Addr} {fd fdA : FuncData} (F : FnP K "is_field" sIsField f fd) (L : Lib K mg) (FA : FnP K "is_lot" sIsLot fA fdA) (gA : mg "is_lot" = some (.ref fA)) (GA : FnOk P w K mg base CX0 2 fA fdA ["entries", "value"] (spIsLot K)) : FnOk P w K mg base CX0 3 f fd ["entries", "value"] (spIsField K) := by
  have bA : Binds K fdA ["entries", "value"] [] := FA.bindsN fun _ _ _ _ _ _ us hl => match us, hl with | [_, _], _ => rfl
  refine okN F scIsField (fun vs H Q E h => ?_) (fun cdv A outer s H vs Q E hr h => ?_)
  · obtain ⟨_, _, _, _, rfl, _⟩ := h
    rfl
  · obtain ⟨n, v, xs, zs, rfl, hn, hv, hl, k⟩ := h
    refine ⟨_, pss_one (ps_ret (pe_and (pe_call GA hr (by rfl) gA FA.kp bA .nil pass0 (pa_cons (pv 0) (pa_cons (pv 1) pa_nil))) (pe_one (pe_cmpR op_gt (pe_callB call_len_seq (by rfl) L.len PySem.boot_len (pa_cons (pv 1) pa_nil)) pe_int (nomark _))))), ?_⟩
    refine ⟨_, rfl, _, rfl, n, v, xs, zs, rfl, hn, hv, hl, fun H1 s1 => ⟨_, rfl, ?_⟩⟩
    cases e : lotB xs zs with
    | false =>
      rw [e] at k
      exact iteF (k H1 s1)
    | true =>
      refine iteT ⟨_, rfl, v, _, rfl, .inl (SqL.of (s1 _ _ hv)), _, _, rfl, rfl, ?_⟩
      rw [List.length_map]
      have e2 : decide ((0 : Int) < (zs.length : Int)) = decide (0 < zs.length) := by
        by_cases q : 0 < zs.length
        · rw [decide_eq_true q, decide_eq_true (by omega)]
        · rw [decide_eq_false q, decide_eq_false (by omega)]
      rw [e, Bool.true_and, ← e2] at k
      exact k H1 s1
abbrev sChkF : Stmt := top 24
theorem scChkF : FnScope ["entries", "field"] ["entries", "field"] (defScope sChkF) := ⟨rfl, rfl, rfl, by decide +kernel, rfl, by decide +kernel, by decide +kernel⟩
theorem ok_chkF {f fA : Addr} {fd fdA : FuncData} (F : FnP K "check_field" sChkF f fd) (FA : FnP K "is_field" sIsField fA fdA) (gA : mg "is_field" = some (.ref fA)) (GA : FnOk P w K mg base CX0 3 fA fdA ["entries", "value"] (spIsField K)) : FnOk P w K mg base CX0 4 f fd ["entries", "field"] (spChkF K) := by
  have bA : Binds K fdA ["entries", "value"] [] := FA.bindsN fun _ _ _ _ _ _ us hl => match us, hl with | [_, _], _ => rfl
  refine okN F scChkF (fun vs H Q E h => ?_) (fun cdv A outer s H vs Q E hr h => ?_)
  · obtain ⟨_, _, _, _, rfl, _⟩ := h
    rfl
  · obtain ⟨n, v, xs, zs, rfl, hn, hv, hl, h1, h2, k⟩ := h
    refine ⟨_, pss_one (ps_if (pt_not (pt_val (pe_call GA hr (by rfl) gA FA.kp bA .nil pass0 (pa_cons (pv 0) (pa_cons (pv 1) pa_nil))))) (pss_one ps_never) pss_nil), ?_⟩
    refine ⟨_, rfl, _, rfl, n, v, xs, zs, rfl, hn, hv, hl, fun H1 s1 => ⟨_, rfl, ?_⟩⟩
    rw [h1, decide_eq_true h2]
    exact k H1 s1
abbrev sChkN : Stmt := top 22
theorem scChkN : FnScope ["entries", "entry"] ["entries", "entry"] (defScope sChkN) := ⟨rfl, rfl, rfl, by decide +kernel, rfl, by decide +kernel, by decide +kernel⟩
theorem ok_chkN {f : Addr} {fd : FuncData} (F : FnP K "check_entry" sChkN f fd) : FnOk P w K mg base CX0 1 f fd ["entries", "entry"] (spChkN K) := by
  refine okN F scChkN (fun vs H Q E h => ?_) (fun cdv A outer s H vs Q E hr h => ?_)
  · obtain ⟨_, _, _, rfl, _⟩ := h
    rfl
  · obtain ⟨n, xs, z, rfl, hn, hz, k⟩ := h
    refine ⟨_, pss_one (ps_if (pt_cmpR op_notIn_seq (pv 1) (pv 0) (by rfl)) (pss_one ps_never) pss_nil), ?_⟩
    refine ⟨_, rfl, _, rfl, n, xs.map V.str, rfl, .inl hn, rfl, flat_strs, ?_⟩
    rw [if_pos rfl, inV_str, decide_eq_true hz]
    exact ⟨_, rfl, k⟩
abbrev sIsCount : Stmt := top 13
theorem scIsCount : FnScope ["value"] ["value"] (defScope sIsCount) := ⟨rfl, rfl, rfl, by decide +kernel, rfl, by decide +kernel, by decide +kernel⟩
theorem ok_isCount {f : Addr} {fd : FuncData} (F : FnP K "is_count" sIsCount f fd) (LP : LibP mg) (LZ : LibZ mg) : FnOk P w K mg base CX0 1 f fd ["value"] spIsCount := by
  refine okN F scIsCount (fun vs H Q E h => ?_) (fun cdv A outer s H vs Q E hr h => ?_)
  · obtain ⟨_, rfl, _⟩ := h
    rfl
  · obtain ⟨i, rfl, k⟩ := h
    refine ⟨_, pss_one (ps_ret (pe_and (pe_callB call_isi (by rfl) LP.isi (by decide +kernel) (pa_cons (pv 0) (pa_cons (pe_bltn (v := .ty "int") (by rfl) LZ.int (by decide +kernel) rfl) pa_nil)))
      (pe_and (pe_not (pe_callB call_isi (by rfl) LP.isi (by decide +kernel) (pa_cons (pv 0) (pa_cons (pe_bltn (v := .ty "bool") (by rfl) LZ.bool (by decide +kernel) rfl) pa_nil)))) (pe_one (pe_cmpR op_ge (pv 0) pe_int (nomark _)))))), ?_⟩
    refine ⟨_, rfl, .int i, .ty "int", .type "int", .type "int", true, rfl, .ty _, .base (.int i), kit_ty (by decide +kernel), true, rfl, iteT ?_⟩
    refine ⟨_, rfl, .int i, .ty "bool", .type "int", .type "bool", false, rfl, .ty _, .base (.int i), kit_ty (by decide +kernel), _, rfl, _, rfl, iteT ?_⟩
    exact ⟨_, rfl, _, _, rfl, rfl, k⟩
abbrev sChkAt : Stmt := top 23
theorem scChkAt : FnScope ["many", "at"] ["many", "at"] (defScope sChkAt) := ⟨rfl, rfl, rfl, by decide +kernel, rfl, by decide +kernel, by decide +kernel⟩
theorem ok_chkAt {f fA : Addr} {fd fdA : FuncData} (F : FnP K "check_position" sChkAt f fd) (FA : FnP K "is_count" sIsCount fA fdA) (gA : mg "is_count" = some (.ref fA)) (GA : FnOk P w K mg base CX0 1 fA fdA ["value"] spIsCount) : FnOk P w K mg base CX0 2 f fd ["many", "at"] spChkAt := by
  have bA : Binds K fdA ["value"] [] := FA.bindsN fun _ _ _ _ _ _ us hl => match us, hl with | [_], _ => rfl
  refine okN F scChkAt (fun vs H Q E h => ?_) (fun cdv A outer s H vs Q E hr h => ?_)
  · obtain ⟨_, _, rfl, _⟩ := h
    rfl
  · obtain ⟨m, i, rfl, h0, h1, k⟩ := h
    refine ⟨_, pss_one (ps_if (PW.pt (pw_or (pt_not (pt_val (pe_call GA hr (by rfl) gA FA.kp bA .nil pass0 (pa_cons (pv 1) pa_nil)))) (pw_or1 (pt_cmpR op_ge (pv 1) (pv 0) (nomark _))))) (pss_one ps_never) pss_nil), ?_⟩
    refine ⟨_, rfl, i, rfl, ?_⟩
    rw [decide_eq_true h0]
    refine ⟨_, rfl, _, rfl, _, rfl, _, _, rfl, rfl, ?_⟩
    exact ⟨_, rfl, ite2 (fun q => absurd (of_decide_eq_true q) (by omega)) fun _ => k⟩
abbrev sChkP : Stmt := top 33
theorem scChkP : FnScope ["panel"] ["panel"] (defScope sChkP) := ⟨rfl, rfl, rfl, by decide +kernel, rfl, by decide +kernel, by decide +kernel⟩
theorem ok_chkP {f : Addr} {fd : FuncData} (F : FnP K "check_panel" sChkP f fd) (LP : LibP mg) (PC : PanX K C) (gP : mg "Panel" = some (.ref C)) : FnOk P w K mg base CX0 1 f fd ["panel"] (spChkP C) := by
  refine okN F scChkP (fun vs H Q E h => ?_) (fun cdv A outer s H vs Q E hr h => ?_)
  · obtain ⟨_, _, _, rfl, _⟩ := h
    rfl
  · obtain ⟨a, dx, fs, rfl, ha, k⟩ := h
    refine ⟨_, pss_one (ps_if (pt_not (pt_val (pe_callB call_isi (by rfl) LP.isi (by decide +kernel) (pa_cons (pv 0) (pa_cons (pe_glob (v := .ref C) (by rfl) gP rfl) pa_nil))))) (pss_one ps_never) pss_nil), ?_⟩
    exact ⟨_, rfl, .ref a, .ref C, .ref C, .ref C, true, rfl, .own C, .base (.ins ha PC.cls PC.cc PC.sg PC.tk PC.mo), PC.me, _, rfl, k⟩
end
end G14

set_option maxHeartbeats 8000000
namespace G14
open PySem PySem.Spec PyProof.Rows L2 G1
/-- the first one of a row that is in a field -/
def fst? (fs r : List Str) : Option Str := r.find? fun y => decide (y ∈ fs)
def fstD (fs r : List Str) : Str := (fst? fs r).getD Str.empty
theorem find_at {p : Str → Bool} : ∀ {r : List Str} {i : Nat} {y : Str}, (r.take i).find? p = none → r[i]? = some y → p y = true → r.find? p = some y
  | [], _, _, _, e, _ => by simp at e
  | x :: r, 0, y, _, e, h => by
    have e2 : x = y := by simpa using e
    rw [e2, List.find?_cons_of_pos h]
  | x :: r, i + 1, y, n, e, h => by
    rw [List.take_succ_cons] at n
    have px : p x = false := by
      cases q : p x with
      | false => rfl
      | true =>
        rw [List.find?_cons_of_pos q] at n
        cases n
    rw [List.find?_cons_of_neg (by rw [px]; exact Bool.false_ne_true)] at n ⊢
    exact find_at n (by simpa using e) h
theorem find_next {p : Str → Bool} {r : List Str} {i : Nat} {y : Str} (n : (r.take i).find? p = none) (e : r[i]? = some y) (h : p y = false) : (r.take (i + 1)).find? p = none := by
  rw [List.take_succ, e, List.find?_append, n]
  show List.find? p [y] = none
  rw [List.find?_cons_of_neg (by rw [h]; exact Bool.false_ne_true)]
  rfl
theorem fst_some {fs r : List Str} {z : Str} (h1 : z ∈ r) (h2 : z ∈ fs) : ∃ y, fst? fs r = some y := by
  cases e : fst? fs r with
  | some y => exact ⟨y, rfl⟩
  | none =>
    have := List.find?_eq_none.mp e z h1
    exact absurd (decide_eq_true h2) this
theorem fst_mem {fs r : List Str} {z : Str} (h : fst? fs r = some z) : z ∈ r ∧ z ∈ fs := by
  have h2 : r.find? (fun y => decide (y ∈ fs)) = some z := h
  have h3 := List.find?_some h2
  exact ⟨List.mem_of_find?_eq_some h2, of_decide_eq_true h3⟩
theorem fstD_of {fs r : List Str} {z : Str} (h : fst? fs r = some z) : fstD fs r = z := by
  unfold fstD
  rw [h]
  rfl
def spFirst (K : PySem.W.Frag) : Sp := fun vs H Q _ => ∃ (r f : Addr) (rs fs : List Str) (z : Str), vs = [.ref r, .ref f] ∧ SqL K H r (rs.map V.str) ∧ SqL K H f (fs.map V.str) ∧ fst? fs rs = some z ∧ Q (.str z) H
def spCardsOn (K : PySem.W.Frag) : Sp := fun vs H Q _ => ∃ (R f : Addr) (as : List Addr) (rs : List (List Str)) (fs : List Str), vs = [.ref R, .ref f] ∧ H R = some (.lst (as.map V.ref)) ∧ RowsAt H as rs ∧ SqL K H f (fs.map V.str) ∧ (∀ r ∈ rs, ∃ z, fst? fs r = some z) ∧ rs.length ≤ 60 ∧
  ∀ (ys : List Str) (D : Addr) (H' : Hp), Same H H' → H D = none → H' D = some (.lst (ys.map V.str)) → sortedS ys = true → ys.Nodup → (∀ z, z ∈ ys ↔ z ∈ rs.map (fstD fs)) → ys.length ≤ rs.length → Q (.ref D) H'
/-- a panel of xs, rs, whose methods can be called -/
structure PanF (H : Hp) (C a : Addr) (xs : List Str) (rs : List (List Str)) : Prop where
  at_ : PanelAt H C a xs rs
  fre : Fre H C a
  le : rs.length ≤ 60
theorem PanF.same {H H' : Hp} {C a : Addr} {xs : List Str} {rs : List (List Str)} (h : PanF H C a xs rs) (s : Same H H') : PanF H' C a xs rs := ⟨h.at_.same s, h.fre.same s, h.le⟩
/-- a field that is right -/
structure FieldAt (H : Hp) (f : Addr) (xs fs : List Str) : Prop where
  at_ : H f = some (.lst (fs.map V.str))
  lot : lotB xs fs = true
  pos : 0 < fs.length
  le : fs.length ≤ 1000
theorem FieldAt.same {H H' : Hp} {f : Addr} {xs fs : List Str} (h : FieldAt H f xs fs) (s : Same H H') : FieldAt H' f xs fs := ⟨s _ _ h.at_, h.lot, h.pos, h.le⟩
theorem FieldAt.sub {H : Hp} {f : Addr} {xs fs : List Str} (h : FieldAt H f xs fs) {z : Str} (hz : z ∈ fs) : z ∈ xs := by
  have q := h.lot
  unfold lotB at q
  exact of_decide_eq_true (List.all_eq_true.mp (He.ba q).1 z hz)
theorem FieldAt.fst {H : Hp} {f : Addr} {xs fs r : List Str} (h : FieldAt H f xs fs) (p : r.Perm xs) : ∃ z, fst? fs r = some z := by
  cases fs with
  | nil => exact absurd h.pos (by simp)
  | cons z fs => exact fst_some (p.mem_iff.mpr (h.sub List.mem_cons_self)) List.mem_cons_self
def spNamed (C : Addr) : Sp := fun vs H Q _ => ∃ (a f : Addr) (i : Nat) (xs fs : List Str) (rs : List (List Str)) (r : List Str) (z : Str), vs = [.ref a, .int (i : Int), .ref f] ∧ PanF H C a xs rs ∧ FieldAt H f xs fs ∧ rs[i]? = some r ∧ fst? fs r = some z ∧ ∀ H', Same H H' → Q (.str z) H'
def spCards (C : Addr) : Sp := fun vs H Q _ => ∃ (a f : Addr) (xs fs : List Str) (rs : List (List Str)), vs = [.ref a, .ref f] ∧ PanF H C a xs rs ∧ FieldAt H f xs fs ∧ (∀ r ∈ rs, r.Perm xs) ∧
  ∀ (ys : List Str) (D : Addr) (H' : Hp), Same H H' → H D = none → H' D = some (.lst (ys.map V.str)) → sortedS ys = true → ys.Nodup → (∀ z, z ∈ ys ↔ z ∈ rs.map (fstD fs)) → ys.length ≤ rs.length → Q (.ref D) H'
/-- at whose rows the first one is z -/
def whoL (fs : List Str) (rs : List (List Str)) (z : Str) : List Nat := (List.range rs.length).filter fun j => decide (fstD fs (rs.getD j []) = z)
def natsV (ns : List Nat) : List V := ns.map fun (j : Nat) => V.int (j : Int)
def spWho (C : Addr) : Sp := fun vs H Q _ => ∃ (a f : Addr) (xs fs : List Str) (rs : List (List Str)) (z : Str), vs = [.ref a, .ref f, .str z] ∧ PanF H C a xs rs ∧ FieldAt H f xs fs ∧ (∀ r ∈ rs, r.Perm xs) ∧ z ∈ xs ∧
  ∀ (D : Addr) (H' : Hp), Same H H' → H D = none → H' D = some (.lst (natsV (whoL fs rs z))) → Q (.ref D) H'
def spAhead (C : Addr) : Sp := fun vs H Q _ => ∃ (a : Addr) (i : Nat) (xs : List Str) (rs : List (List Str)) (r : List Str) (z : Str), vs = [.ref a, .int (i : Int), .str z] ∧ PanF H C a xs rs ∧ rs[i]? = some r ∧ r.length ≤ 60 ∧ z ∈ xs ∧ z ∈ r ∧
  ∀ (ys : List Str) (D : Addr) (H' : Hp), Same H H' → H D = none → H' D = some (.lst (ys.map V.str)) → sortedS ys = true → ys.Perm (r.take (r.idxOf z)) → Q (.ref D) H'
def spPlaces (C : Addr) : Sp := fun vs H Q _ => ∃ (a : Addr) (xs : List Str) (rs : List (List Str)) (z : Str), vs = [.ref a, .str z] ∧ PanF H C a xs rs ∧ (∀ r ∈ rs, z ∈ r) ∧ z ∈ xs ∧
  ∀ (D : Addr) (H' : Hp), Same H H' → H D = none → H' D = some (.lst (natsV (rs.map fun r => r.idxOf z))) → Q (.ref D) H'
/-- row.index(z) -/
theorem idx_ok {r : List Str} {z : Str} (hz : z ∈ r) : (r.map V.str)[r.idxOf z]? = some (.str z) ∧ eqV (.str z) (.str z) = true ∧ ∀ (m : Nat) (y : V), m < r.idxOf z → (r.map V.str)[m]? = some y → eqV y (.str z) = false := by
  have lt := List.idxOf_lt_length_of_mem hz
  refine ⟨?_, ?_, fun m y lm e => ?_⟩
  · rw [List.getElem?_map, List.getElem?_eq_getElem lt, List.getElem_idxOf lt]
    rfl
  · show ((z == z : Bool)) = true
    exact beq_self_eq_true z
  · rw [List.getElem?_map] at e
    obtain ⟨x, hx, rfl⟩ := Option.map_eq_some_iff.mp e
    show ((x == z : Bool)) = false
    have lm2 : m < r.length := by omega
    rw [List.getElem?_eq_getElem lm2] at hx
    have hx2 : r[m] = x := Option.some.inj hx
    have := List.not_of_lt_findIdx (p := (· == z)) (xs := r) lm
    rw [← hx2]
    simpa using this
section
variable {P : Program} {w : World} {K : PySem.W.Frag} {mg : Str → Option Value} {base : Heap} {C fLn : Addr} {fdLn : FuncData}
abbrev sFirst : Stmt := top 35
theorem scFirst : FnScope ["row", "field", "name"] ["row", "field"] (defScope sFirst) := ⟨rfl, rfl, rfl, by decide +kernel, rfl, by decide +kernel, by decide +kernel⟩
theorem ok_first {f : Addr} {fd : FuncData} (F : FnP K "first_there" sFirst f fd) : FnOk P w K mg base CX0 1 f fd ["row", "field"] (spFirst K) := by
  refine okN F scFirst (fun vs H Q E h => ?_) (fun cdv A outer s H vs Q E hr h => ?_)
  · obtain ⟨_, _, _, _, _, rfl, _⟩ := h
    rfl
  · obtain ⟨r, f, rs, fs, z, rfl, hR, hF, hz, k⟩ := h
    refine ⟨_, pss_cons (ps_for PassesOwn.never rfl (pi_list (pv 0)) (pg_name (i := 2) scFirst.nd rfl (Or.inl rfl)) (pss_one (ps_if (pt_cmpR op_in_seq (pv 2) (pv 1) (by rfl)) (pss_one (ps_ret (pv 2))) pss_nil))) (pss_one ps_never), ?_⟩
    refine ⟨_, rfl, r, rfl, ⟨_, hR⟩, for_list (K := K) (a := r) (xs := rs.map V.str) (fun i σ H' => H' = H ∧ (∃ o, σ = [some (.ref r), some (.ref f), o]) ∧ (rs.take i).find? (fun y => decide (y ∈ fs)) = none) ⟨rfl, ⟨none, rfl⟩, rfl⟩ (fun i σ H' _ h => by rw [h.1]; exact hR) ?_ ?_⟩
    · rintro i y σ H' hi ⟨rfl, ⟨o, rfl⟩, n⟩
      rw [List.getElem?_map] at hi
      obtain ⟨x, hx, rfl⟩ := Option.map_eq_some_iff.mp hi
      refine ⟨_, rfl, _, rfl, f, fs.map V.str, rfl, .inl hF, rfl, flat_strs, _, rfl, ?_⟩
      rw [if_neg Bool.false_ne_true, inV_str]
      refine ite2 (fun e => ?_) (fun e => ?_)
      · have q : fst? fs rs = some x := find_at n hx e
        rw [hz] at q
        cases q
        exact ⟨_, rfl, k⟩
      · exact ⟨rfl, ⟨_, rfl⟩, find_next n hx (Bool.eq_false_iff.mpr e)⟩
    · rintro σ H' ⟨rfl, _, n⟩
      rw [List.length_map, List.take_length] at n
      have q : fst? fs rs = none := n
      rw [hz] at q
      cases q
abbrev sCardsOn : Stmt := top 36
theorem scCardsOn : FnScope ["rows", "field", "row"] ["rows", "field"] (defScope sCardsOn) := ⟨rfl, rfl, rfl, by decide +kernel, rfl, by decide +kernel, by decide +kernel⟩
theorem ok_cardsOn {f fF : Addr} {fd fdF : FuncData} (F : FnP K "cards_on" sCardsOn f fd) (LP : LibP mg) (FF : FnP K "first_there" sFirst fF fdF) (gF : mg "first_there" = some (.ref fF)) (GF : FnOk P w K mg base CX0 1 fF fdF ["row", "field"] (spFirst K)) :
    FnOk P w K mg base CX0 2 f fd ["rows", "field"] (spCardsOn K) := by
  have bF : Binds K fdF ["row", "field"] [] := FF.bindsN fun _ _ _ _ _ _ us hl => match us, hl with | [_, _], _ => rfl
  refine okN F scCardsOn (fun vs H Q E h => ?_) (fun cdv A outer s H vs Q E hr h => ?_)
  · obtain ⟨_, _, _, _, _, rfl, _⟩ := h
    rfl
  · obtain ⟨R, f, as, rs, fs, rfl, hR, hra, hF, hz, le, k⟩ := h
    refine ⟨_, pss_one (ps_ret (pe_sortS (by rfl) (by rfl) LP.sorted (by rfl) LP.set
        (pe_lc (own := [("row", 2)]) (g := gName 2) (tt := tYes) (te := tCall (spFirst K) [] E0 (tCons (tVar 2) (tCons (tVar 1) tNil))) rfl scCardsOn.nd (pi_list (pv 0))
          (blkOk_by (N := ["rows", "field", "row"]) (sc := defScope sCardsOn) (by decide +kernel)) (fun _ _ _ _ _ => pg_name (i := 2) scCardsOn.nd rfl (Or.inl rfl)) (fun _ _ _ _ _ => pts_nil)
          (fun _ _ _ _ _ => pe_call GF hr (by rfl) gF FF.kp bF .nil pass0 (pa_cons (pv 2) (pa_cons (pv 1) pa_nil)))))), ?_⟩
    refine ⟨_, rfl, R, rfl, ⟨_, SqL.of hR⟩, fun D hD => lc_list (K := K) (a := R) (xs := as.map V.ref) (fun i H' => H' D = some (.lst (((rs.take i).map (fstD fs)).map V.str)) ∧ Same H H') ⟨upd_same, sn hD⟩ (fun i H' _ h => SqL.of (h.2 _ _ hR)) ?_ ?_⟩
    · rintro i y H' hi ⟨q1, q2⟩
      rw [List.getElem?_map] at hi
      obtain ⟨c, hc, rfl⟩ := Option.map_eq_some_iff.mp hi
      obtain ⟨r, hr1, hr2⟩ := hra.at hc
      obtain ⟨z, hz1⟩ := hz r (List.mem_of_getElem? hr1)
      refine ⟨rfl, _, rfl, _, rfl, c, f, r, fs, z, rfl, SqL.of (q2 _ _ hr2), q2.seq hF, hz1, _, q1, ?_, ?_, fun b o e => ?_⟩
      · refine small1000 ?_
        rw [List.length_map, List.length_map]
        have := List.length_take_le' i rs
        omega
      · rw [upd_same, List.take_succ, hr1, List.map_append, List.map_append]
        show _ = some (HO.lst (_ ++ [V.str (fstD fs r)]))
        rw [fstD_of hz1]
      · rw [upd_ne (ne_of_none e hD)]
        exact q2 _ _ e
    · rintro H' ⟨q1, q2⟩
      rw [List.length_map, hra.len, List.take_length] at q1
      refine ⟨D, rs.map (fstD fs), rfl, SqL.of q1, by rw [List.length_map]; omega, fun ys p so nd hm ly np => ?_⟩
      rw [List.length_map] at ly
      exact k ys p _ (q2.trans (sn np)) (q2.free np) upd_same so nd hm ly
end
end G14

set_option maxHeartbeats 8000000
namespace G14
open PySem PySem.Spec PyProof.Rows L2 G1
/-- the bit of a name -/
def bitV (xs : List Str) (x : Str) : V := .int ((2 ^ xs.idxOf x : Nat) : Int)
theorem idx_at {xs : List Str} (nd : xs.Nodup) {i : Nat} {x : Str} (h : xs[i]? = some x) : xs.idxOf x = i := by
  obtain ⟨hi, e⟩ := List.getElem?_eq_some_iff.mp h
  have hm : x ∈ xs := List.mem_of_getElem? h
  have hl := List.idxOf_lt_length_of_mem hm
  have e2 : xs[xs.idxOf x] = x := List.getElem_idxOf hl
  rcases Nat.lt_trichotomy (xs.idxOf x) i with q | q | q
  · exact absurd (e2.trans e.symm) (List.pairwise_iff_getElem.mp nd _ _ hl hi q)
  · exact q
  · exact absurd (e.trans e2.symm) (List.pairwise_iff_getElem.mp nd _ _ hi hl q)
theorem bit_msk {xs : List Str} (nd : xs.Nodup) {x : Str} (h : x ∈ xs) : 2 ^ xs.idxOf x = msk (fun y => y == x) xs := by
  have hl := List.idxOf_lt_length_of_mem h
  exact (msk_one nd (by rw [List.getElem?_eq_getElem hl, List.getElem_idxOf hl])).symm
def spBits : Sp := fun vs H Q _ => ∃ (e : Addr) (xs : List Str), vs = [.ref e] ∧ H e = some (.lst (xs.map V.str)) ∧ xs.Nodup ∧ xs.length ≤ 40 ∧ ∀ (D : Addr) (H' : Hp), Same H H' → H D = none → H' D = some (.dK (dN xs (bitV xs))) → Q (.ref D) H'
section
variable {P : Program} {w : World} {K : PySem.W.Frag} {mg : Str → Option Value} {base : Heap} {C : Addr}
abbrev sBits : Stmt := top 25
abbrev nBits : List Str := ["entries", "at", "name"]
theorem scBits : FnScope nBits ["entries"] (defScope sBits) := ⟨rfl, rfl, rfl, by decide +kernel, rfl, by decide +kernel, by decide +kernel⟩
theorem ok_bits {f : Addr} {fd : FuncData} (F : FnP K "bits_of" sBits f fd) (le : mg "enumerate" = none) : FnOk P w K mg base CX0 1 f fd ["entries"] spBits := by
  refine okN F scBits (fun vs H Q E h => ?_) (fun cdv A outer s H vs Q E hr h => ?_)
  · obtain ⟨_, _, rfl, _⟩ := h
    rfl
  · obtain ⟨e, xs, rfl, he, nd, l40, k⟩ := h
    refine ⟨_, pss_one (ps_ret (pe_dc (own := [("at", 1), ("name", 2)]) (g := gTup K 2 (gCons (gName 1) (gCons (gName 2) gNil))) (tt := tYes) (tk := tVar 2) (tv := tOp (rI CPow fun i j => .int (i * 2 ^ j.toNat)) (tC (.int 1)) (tVar 1)) rfl scBits.nd
        (pi_enum (by rfl) le (pa_cons (pv 0) pa_nil)) (blkOk_by (N := nBits) (sc := defScope sBits) (by decide +kernel))
        (fun _ _ _ _ _ => pg_tup (n := 2) (by rfl) (pgs_cons (pg_name (i := 1) scBits.nd rfl (Or.inl rfl)) (pgs_cons (pg_name (i := 2) scBits.nd rfl (Or.inl rfl)) pgs_nil)))
        (fun _ _ _ _ _ => pts_nil) (fun _ _ _ _ _ => pv 2) (fun _ _ _ _ _ => pe_op op_shl pe_int (pv 1)))), ?_⟩
    have I : ∀ {H' : Hp}, Same H H' → SqL K H' e (xs.map V.str) := fun s => SqL.of (s _ _ he)
    refine ⟨_, rfl, e, xs.map V.str, rfl, SqL.of he, fun D hD => ?_⟩
    refine ⟨fun i m H' => m = xs.length - i ∧ i ≤ xs.length ∧ H' D = some (.dK (dN (xs.take i) (bitV xs))) ∧ Same H H', ⟨xs.length, rfl, Nat.zero_le _, upd_same, sn hD⟩, ?_⟩
    rintro i m H1 ⟨rfl, hi, hH, s1⟩
    by_cases lt : i < xs.length
    · have ex : xs[i]? = some xs[i] := List.getElem?_eq_getElem lt
      have em : (xs.map V.str)[i]? = some (.str xs[i]) := by rw [List.getElem?_map, ex]; rfl
      refine .inr ⟨⟨_, _, I s1, em⟩, fun H' => H' D = some (.dK (dN (xs.take (i + 1)) (bitV xs))) ∧ Same H H', fun H' p => ⟨xs.length - (i + 1), by omega, rfl, lt, p.1, p.2⟩, fun v H' y => ?_⟩
      obtain ⟨T, x, rfl, nT, rfl, hx⟩ := y
      have ey := hx _ (I s1)
      rw [em] at ey
      obtain rfl := Option.some.inj ey
      have sT := sn nT (o := .tup [.int (i : Nat), .str xs[i]])
      refine ⟨T, _, rfl, SqT.of upd_same, rfl, _, _, rfl, _, _, rfl, rfl, rfl, _, rfl, _, rfl, _, _, rfl, rfl, ?_, ?_⟩
      · exact ⟨by omega, by omega, by decide⟩
      have nx : xs[i] ∉ xs.take i := fun q => by
        obtain ⟨j, hj, e⟩ := List.mem_iff_getElem.mp q
        rw [List.length_take] at hj
        rw [List.getElem_take] at e
        exact List.pairwise_iff_getElem.mp nd j i (by omega) lt (by omega) e
      refine ⟨_, .inr xs[i], rfl, sT _ _ hH, small1000 (by rw [dN_len, List.length_take]; omega), ?_, fun b o e => ?_⟩
      · have eb : V.int ((1 : Int) * 2 ^ ((i : Nat) : Int).toNat) = bitV xs xs[i] := by
          unfold bitV
          rw [idx_at nd ex, Int.toNat_natCast, Int.one_mul]
          congr 1
        refine upd_same.trans (congrArg (fun z => some (HO.dK z)) ?_)
        show putK (dN (xs.take i) (bitV xs)) (.inr xs[i]) (V.int ((1 : Int) * 2 ^ ((i : Nat) : Int).toNat)) = _
        rw [eb, dN_put nx, List.take_succ, ex]
        rfl
      · rw [upd_ne (ne_of_none e hD)]
        exact sT _ _ (s1 _ _ e)
    · have e0 : i = xs.length := by omega
      subst e0
      rw [List.take_length] at hH
      exact .inl ⟨⟨_, I s1, by rw [List.length_map]; exact Nat.le_refl _⟩, k D H1 s1 hD hH⟩
end
end G14

set_option maxHeartbeats 8000000
namespace G14
open PySem PySem.Spec PyProof.Rows L2 G1
/-- who is ahead of z in a row, as a mask -/
def aheadM (xs row : List Str) (z : Str) : Nat := msk (fun y => decide (y ∈ row.take (row.idxOf z))) xs
def aheadV (xs row : List Str) (z : Str) : V := .int ((aheadM xs row z : Nat) : Int)
theorem msk_step {xs row : List Str} (nd : xs.Nodup) {i : Nat} {z : Str} (h : row[i]? = some z) (hz : z ∈ xs) :
    Builtin.bitOr ((msk (fun y => decide (y ∈ row.take i)) xs : Nat) : Int) ((2 ^ xs.idxOf z : Nat) : Int) = ((msk (fun y => decide (y ∈ row.take (i + 1))) xs : Nat) : Int) := by
  rw [bor_nat, bit_msk nd hz, msk_or]
  congr 1
  refine msk_inj.mpr fun x _ => ?_
  rw [List.take_succ, h]
  by_cases e : x = z
  · subst e
    simp
  · simp [e]
def spMAhead : Sp := fun vs H Q _ => ∃ (b r : Addr) (xs row : List Str), vs = [.ref b, .ref r] ∧ H b = some (.dK (dN xs (bitV xs))) ∧ H r = some (.lst (row.map V.str)) ∧ xs.Nodup ∧ row.Nodup ∧ (∀ z ∈ row, z ∈ xs) ∧ row.length ≤ 40 ∧
  ∀ (D : Addr) (H' : Hp), Same H H' → H D = none → H' D = some (.dK (dN row (aheadV xs row))) → Q (.ref D) H'
section
variable {P : Program} {w : World} {K : PySem.W.Frag} {mg : Str → Option Value} {base : Heap} {C : Addr}
abbrev sMAhead : Stmt := top 28
abbrev nMAhead : List Str := ["bits", "row", "masks", "passed", "name"]
theorem scMAhead : FnScope nMAhead ["bits", "row"] (defScope sMAhead) := ⟨rfl, rfl, rfl, by decide +kernel, rfl, by decide +kernel, by decide +kernel⟩
theorem ok_mAhead {f : Addr} {fd : FuncData} (F : FnP K "masks_ahead" sMAhead f fd) : FnOk P w K mg base CX0 1 f fd ["bits", "row"] spMAhead := by
  refine okN F scMAhead (fun vs H Q E h => ?_) (fun cdv A outer s H vs Q E hr h => ?_)
  · obtain ⟨_, _, _, _, rfl, _⟩ := h
    rfl
  · obtain ⟨b, r, xs, row, rfl, hb, hR, nx, nr, sub, l40, k⟩ := h
    have hun := hr.un
    have nd := scMAhead.nd
    have hu1 : (A.deeper (envOfC "masks_ahead" (defScope sMAhead) s.heap.objs.size f cdv)).units + 1 < cLine := by omega
    refine ⟨_, pss_cons (ps_par (i := 2) (j := 3) (by rfl) nd rfl rfl (by decide) rfl rfl (pa_cons pe_dnewK (pa_cons pe_int pa_nil)) (by rfl))
      (pss_cons (ps_for PassesOwn.never rfl (pi_list (pv 1)) (pg_name (i := 4) nd rfl (Or.inl rfl))
        (pss_cons (ps_dput hu1 (pv 2) (pv 4) (pv 3) (by rfl))
        (pss_one (ps_set (i := 3) nd rfl (Or.inl rfl) (pe_op op_or (pv 3) (pe_dget hu1 (pv 0) (pv 4) (fun _ _ => rfl)))))))
      (pss_one (ps_ret (pv 2)))), ?_⟩
    refine fun D nD => ⟨_, _, rfl, ?_⟩
    have sD := sn nD (o := .dK [])
    refine ⟨_, rfl, r, rfl, ⟨_, SqL.of (sD _ _ hR)⟩, for_list (K := K) (a := r) (xs := row.map V.str) (fun i σ H' => ∃ o4 : Option V, σ = [some (.ref b), some (.ref r), some (.ref D), some (.int ((msk (fun y => decide (y ∈ row.take i)) xs : Nat) : Int)), o4] ∧ H' D = some (.dK (dN (row.take i) (aheadV xs row))) ∧ Same H H')
      ⟨none, ?_, upd_same, sD⟩ (fun i σ H' _ h => by obtain ⟨_, _, _, h⟩ := h; exact SqL.of (h _ _ hR)) ?_ ?_⟩
    · have e0 : msk (fun y => decide (y ∈ row.take 0)) xs = 0 := msk_zero.mpr fun x _ => by simp
      rw [e0]
      rfl
    · rintro i y σ H1 hi ⟨o4, rfl, hD1, s1⟩
      rw [List.getElem?_map] at hi
      obtain ⟨z, hz, rfl⟩ := Option.map_eq_some_iff.mp hi
      have zr := List.mem_of_getElem? hz
      have li := (List.getElem?_eq_some_iff.mp hz).1
      have nz : z ∉ row.take i := fun q => by
        obtain ⟨j, hj, e⟩ := List.mem_iff_getElem.mp q
        rw [List.length_take] at hj
        rw [List.getElem_take] at e
        have ez := (List.getElem?_eq_some_iff.mp hz).2
        exact List.pairwise_iff_getElem.mp nr j i (by omega) li (by omega) (e.trans ez.symm)
      have ea : aheadV xs row z = .int ((msk (fun y => decide (y ∈ row.take i)) xs : Nat) : Int) := by
        unfold aheadV aheadM
        rw [idx_at nr hz]
      refine ⟨_, rfl, _, rfl, _, rfl, D, _, rfl, .inl ⟨_, .inr z, hD1, rfl, small1000 (by rw [dN_len, List.length_take]; omega), rfl⟩, ?_⟩
      rw [← ea, dN_put nz]
      have s2 : Same H (upd H1 D (.dK (dN (row.take i ++ [z]) (aheadV xs row)))) := fun c o e => by rw [upd_ne (ne_of_none e nD)]; exact s1 _ _ e
      have hD2 := upd_same (a := D) (o := HO.dK (dN (row.take i ++ [z]) (aheadV xs row))) (H := H1)
      generalize upd H1 D (.dK (dN (row.take i ++ [z]) (aheadV xs row))) = H2 at s2 hD2 ⊢
      refine ⟨_, rfl, _, rfl, _, rfl, b, _, rfl, dN_get (s2 _ _ hb) (sub z zr), ?_⟩
      refine ⟨_, _, ea, rfl, some (.str z), ?_, ?_, s2⟩
      · rw [← msk_step nx hz (sub z zr)]
        rfl
      · rw [hD2, List.take_succ, hz]
        rfl
    · rintro σ H1 ⟨o4, rfl, hD1, s1⟩
      rw [List.length_map, List.take_length] at hD1
      exact ⟨_, rfl, k D H1 s1 nD hD1⟩
end
end G14

set_option maxHeartbeats 8000000
namespace G14
open PySem PySem.Spec PyProof.Rows L2 G1
/-- a def of the text, where it stands, what it promises -/
structure Df (P : Program) (w : World) (K : PySem.W.Frag) (mg : Str → Option Value) (base : Heap) (k : Nat) (x : Str) (st : Stmt) (ps : List Str) (sp : Sp) : Prop where
  ex : ∃ (f : Addr) (fd : FuncData), FnP K x st f fd ∧ mg x = some (.ref f) ∧ FnOk P w K mg base CX0 k f fd ps sp ∧ Binds K fd ps []
theorem pe_df {X : Cx} {k : Nat} {x : Str} {st : Stmt} {ps : List Str} {sp : Sp} {e : Expr} {es : List Expr} {t : TA} {p pos : Pos} (D : Df X.prog X.w X.K X.mg X.base k x st ps sp) (hr : Room k X.A) (hg : Gl X x) (ha : PA X (e :: es) t)
    (hdb : (x == ("__debug__" : Str)) = false := by decide) (he : starEach (e :: es) X.env = (false, eval e X.env) :: starEach es X.env := by rfl) (hpl : (backTo pos (starEach es X.env)).any (·.1) = false := by rfl) :
    PE X (.Call (.Name x p) (e :: es) [] pos) (tCall sp [] E0 t) := by
  obtain ⟨f, fd, F, g, G, b⟩ := D.ex
  exact pe_call G hr hg g F.kp b .nil pass0 ha hdb he hpl
theorem pe_df0 {X : Cx} {k : Nat} {x : Str} {st : Stmt} {ps : List Str} {sp : Sp} {p pos : Pos} (D : Df X.prog X.w X.K X.mg X.base k x st ps sp) (hr : Room k X.A) (hg : Gl X x) (hdb : (x == ("__debug__" : Str)) = false := by decide) :
    PE X (.Call (.Name x p) [] [] pos) (tCall sp [] E0 tNil) := by
  obtain ⟨f, fd, F, g, G, b⟩ := D.ex
  exact pe_call0 G hr hg g F.kp b .nil pass0 hdb
/-- a method without arguments -/
structure Mt (P : Program) (w : World) (K : PySem.W.Frag) (mg : Str → Option Value) (base : Heap) (C : Addr) (m : Str) (sp : Sp) : Prop where
  ex : ∃ (f : Addr) (fd : FuncData), Meth K C m f ∧ FnOk P w K mg base CX0 1 f fd ["self"] sp ∧ Binds K fd ["self"] []
/-- what is known of the class Panel where it is used -/
structure PanP (P : Program) (w : World) (K : PySem.W.Frag) (mg : Str → Option Value) (base : Heap) (C : Addr) : Prop where
  cls : Cls K C
  en : Mt P w K mg base C "entries" (spEnt C)
  rw : Mt P w K mg base C "rows" (spRws C)
  ln : ∃ (f : Addr) (fd : FuncData), PySem.W.findIn K (.ref C) "__len__" = some (some (.ref f)) ∧ PySem.W.isFn K (.ref f) = true ∧ FnOk P w K mg base CX0 1 f fd ["self"] (spLen C) ∧ Binds K fd ["self"] []
theorem pe_mt {X : Cx} {C : Addr} {m : Str} {sp : Sp} {o : Expr} {ta : TE} {apos pos : Pos} {pl : Sem Bool} (he : PE X o ta) (c : Cls X.K C) (M : Mt X.prog X.w X.K X.mg X.base C m sp) (hr : Room 1 X.A)
    (ht : eval (.Call (.Attribute o m apos) [] [] pos) X.env = (do
      let ov ← eval o X.env
      standAt apos.atName
      let (f, first) ← holding [ov] (getMethod ov m pl)
      callWith pos f first (backTo pos (starEach [] X.env)) (backToKw pos (keywordEach [] X.env))) := by rfl) : PE X (.Call (.Attribute o m apos) [] [] pos) (tMeth C m sp [] E0 ta tNil) := by
  obtain ⟨f, fd, M1, G, b⟩ := M.ex
  exact pe_meth0 he c M1 G hr b .nil pass0 ht
theorem call_lenP {X : Cx} {C : Addr} (N : PanP X.prog X.w X.K X.mg X.base C) (hr : Room 2 X.A) : CallR X (.builtin "len") (rLenO C (spLen C)) := by
  obtain ⟨f, fd, h1, h2, G, b⟩ := N.ln
  exact call_lenO G hr h1 h2 b
theorem RowsAt.adr {H : Hp} {as : List Addr} {rs : List (List Str)} (h : RowsAt H as rs) : ∀ {i : Nat} {r : List Str}, rs[i]? = some r → ∃ c, as[i]? = some c ∧ H c = some (.lst (r.map V.str)) := by
  induction h with
  | nil => intro i r e; simp at e
  | @cons a r0 as rs h0 _ ih =>
    intro i r e
    match i, e with
    | 0, e =>
      have e2 : r0 = r := by simpa using e
      exact ⟨a, rfl, e2 ▸ h0⟩
    | i + 1, e => exact ih (by simpa using e)
section
variable {P : Program} {w : World} {K : PySem.W.Frag} {mg : Str → Option Value} {base : Heap} {C : Addr}
abbrev sCards : Stmt := top 37
theorem scCards : FnScope ["panel", "field"] ["panel", "field"] (defScope sCards) := ⟨rfl, rfl, rfl, by decide +kernel, rfl, by decide +kernel, by decide +kernel⟩
theorem ok_cards {f : Addr} {fd : FuncData} (F : FnP K "cards" sCards f fd) (N : PanP P w K mg base C) (DP : Df P w K mg base 1 "check_panel" sChkP ["panel"] (spChkP C))
    (DF : Df P w K mg base 4 "check_field" sChkF ["entries", "field"] (spChkF K)) (D1 : Df P w K mg base 2 "cards_on" sCardsOn ["rows", "field"] (spCardsOn K)) : FnOk P w K mg base CX0 5 f fd ["panel", "field"] (spCards C) := by
  refine okN F scCards (fun vs H Q E h => ?_) (fun cdv A outer s H vs Q E hr h => ?_)
  · obtain ⟨_, _, _, _, _, rfl, _⟩ := h
    rfl
  · obtain ⟨a, fa, xs, fs, rs, rfl, ⟨pan, fre, le⟩, hf, hp, k⟩ := h
    obtain ⟨dx, gs, fr1, fr2, fr3, fr4⟩ := fre
    refine ⟨_, pss_cons (ps_expr (pe_df DP (hr.mono (by decide)) (by rfl) (pa_cons (pv 0) pa_nil)))
      (pss_cons (ps_expr (pe_df DF hr (by rfl) (pa_cons (pe_mt (pv 0) N.cls N.en (hr.mono (by decide))) (pa_cons (pv 1) pa_nil))))
      (pss_one (ps_ret (pe_df D1 (hr.mono (by decide)) (by rfl) (pa_cons (pe_mt (pv 0) N.cls N.rw (hr.mono (by decide))) (pa_cons (pv 1) pa_nil)))))), ?_⟩
    refine ⟨_, rfl, a, dx, gs, rfl, fr1, ?_⟩
    refine ⟨_, rfl, a, dx, gs, rfl, fr1, fr2, a, xs, rs, rfl, pan, fun D H1 s1 nD hD => ⟨_, rfl, D, fa, xs, fs, rfl, SqL.of hD, s1 _ _ hf.at_, hf.le, hf.lot, hf.pos, fun H2 s2 => ?_⟩⟩
    have s12 := s1.trans s2
    refine ⟨_, rfl, a, dx, gs, rfl, s12 _ _ fr1, fr3, a, xs, rs, rfl, pan.same s12, le, fun D2 as H3 s3 nD2 hD2 has _ _ => ?_⟩
    have s13 := s12.trans s3
    refine ⟨_, rfl, D2, fa, as, rs, fs, rfl, hD2, has, SqL.of (s13 _ _ hf.at_), fun r hr => hf.fst (hp r hr), le, fun ys D3 H4 s4 nD3 hD3 so nd hm ly => ?_⟩
    exact k ys D3 H4 (s13.trans s4) (s13.free nD3) hD3 so nd hm ly
end
end G14

set_option maxHeartbeats 8000000
namespace G14
open PySem PySem.Spec PyProof.Rows L2 G1
/-- numbers of masks in a list -/
def mskV (ms : List Nat) : List V := ms.map fun (m : Nat) => V.int (m : Int)
/-- n has nothing but what m has -/
def inB (n m : Nat) : Bool := n - (n &&& m) == 0
def holdB (m : Nat) (ms : List Nat) : Bool := ms.any fun n => inB n m
def leastS (acc : List Nat) (m : Nat) : List Nat := if holdB m acc then acc else acc ++ [m]
/-- the least of some masks, from the smallest number on -/
def leastM (ys : List Nat) : List Nat := ys.foldl leastS []
theorem leastS_len {acc : List Nat} {m : Nat} : (leastS acc m).length ≤ acc.length + 1 := by
  unfold leastS
  split
  · omega
  · rw [List.length_append]
    simp
theorem leastM_len : ∀ (ys acc : List Nat), (ys.foldl leastS acc).length ≤ acc.length + ys.length
  | [], acc => by simp
  | y :: ys, acc => by
    have h := leastM_len ys (leastS acc y)
    have h2 := leastS_len (acc := acc) (m := y)
    show (ys.foldl leastS (leastS acc y)).length ≤ _
    rw [List.length_cons]
    omega
def spHolds (K : PySem.W.Frag) : Sp := fun vs H Q _ => ∃ (m : Nat) (l : Addr) (ms : List Nat), vs = [.int (m : Int), .ref l] ∧ H l = some (.lst (mskV ms)) ∧ ms.length ≤ 900 ∧ ∀ H', Same H H' → Q (.bl (holdB m ms)) H'
def spLeast (K : PySem.W.Frag) : Sp := fun vs H Q _ => ∃ (l : Addr) (ms : List Nat), vs = [.ref l] ∧ H l = some (.lst (mskV ms)) ∧ ms.length ≤ 900 ∧
  ∀ (D : Addr) (ys : List Nat) (H' : Hp), Same H H' → H D = none → ys.Pairwise (· ≤ ·) → ys.Nodup → (∀ m, m ∈ ys ↔ m ∈ ms) → ys.length ≤ ms.length → H' D = some (.lst (mskV (leastM ys))) → Q (.ref D) H'
section
variable {P : Program} {w : World} {K : PySem.W.Frag} {mg : Str → Option Value} {base : Heap} {C : Addr}
abbrev sHolds : Stmt := top 29
abbrev nHolds : List Str := ["mask", "masks", "outside", "lesser"]
theorem scHolds : FnScope nHolds ["mask", "masks"] (defScope sHolds) := ⟨rfl, rfl, rfl, by decide +kernel, rfl, by decide +kernel, by decide +kernel⟩
theorem ok_holds {f : Addr} {fd : FuncData} (F : FnP K "holds_one" sHolds f fd) (la : mg "any" = none) : FnOk P w K mg base CX0 1 f fd ["mask", "masks"] (spHolds K) := by
  refine okN F scHolds (fun vs H Q E h => ?_) (fun cdv A outer s H vs Q E hr h => ?_)
  · obtain ⟨_, _, _, rfl, _⟩ := h
    rfl
  · obtain ⟨m, l, ms, rfl, hl, le, k⟩ := h
    have nd := scHolds.nd
    refine ⟨_, pss_cons (ps_set (i := 2) nd rfl (Or.inr rfl) (pe_un un_inv (pv 0)))
      (pss_one (ps_ret (pe_callB (cr_any rfl) (by rfl) la (by decide +kernel) (pa_cons
        (pe_lc (own := [("lesser", 3)]) (g := gName 3) (tt := tYes) (te := tNotT K (tOp (rI0 fun i j => .int (Builtin.bitAnd i j)) (tVar 3) (tVar 2))) rfl nd (pi_list (pv 1))
          (blkOk_by (N := nHolds) (sc := defScope sHolds) (by decide +kernel)) (fun _ _ _ _ _ => pg_name (i := 3) scHolds.nd rfl (Or.inl rfl)) (fun _ _ _ _ _ => pts_nil) (fun _ _ _ _ _ => pe_notT (pe_op op_and (pv 3) (pv 2)))) pa_nil)))), ?_⟩
    refine ⟨_, rfl, _, rfl, _, rfl, l, rfl, ⟨_, SqL.of hl⟩, fun D nD => lc_list (K := K) (a := l) (xs := mskV ms) (fun i H' => H' D = some (.lst (((ms.take i).map fun n => inB n m).map V.bl)) ∧ Same H H') ⟨upd_same, sn nD⟩ (fun i H' _ h => SqL.of (h.2 _ _ hl)) ?_ ?_⟩
    · rintro i y H1 hi ⟨q1, q2⟩
      unfold mskV at hi
      rw [List.getElem?_map] at hi
      obtain ⟨n, hn, rfl⟩ := Option.map_eq_some_iff.mp hi
      refine ⟨rfl, _, rfl, _, rfl, _, _, rfl, rfl, !(inB n m), ?_, _, q1, small1000 (by rw [List.length_map, List.length_map, List.length_take]; omega), ?_, fun b o e => ?_⟩
      · show (!(inB n m)) = (Builtin.bitAnd (n : Int) (Builtin.bitNot (m : Int)) != 0)
        rw [bandnot_nat]
        unfold inB
        cases e : n - (n &&& m) with
        | zero => rfl
        | succ c =>
          have e1 : ((c + 1 : Nat) == 0) = false := rfl
          have e2 : (((c + 1 : Nat) : Int) != 0) = true := bne_iff_ne.mpr (by omega)
          rw [e1, e2]
          rfl
      · rw [upd_same, Bool.not_not, List.take_succ, hn, List.map_append, List.map_append]
        rfl
      · rw [upd_ne (ne_of_none e nD)]
        exact q2 _ _ e
    · rintro H1 ⟨q1, q2⟩
      have el : (mskV ms).length = ms.length := List.length_map _
      rw [el, List.take_length] at q1
      refine ⟨D, ms.map fun n => inB n m, rfl, SqL.of q1, ?_⟩
      have e : (ms.map fun n => inB n m).any id = holdB m ms := by
        unfold holdB
        rw [List.any_map]
        rfl
      rw [e]
      exact k H1 q2
abbrev sLeast : Stmt := top 30
abbrev nLeast : List Str := ["masks", "least", "mask", "outside", "lesser"]
theorem scLeast : FnScope nLeast ["masks"] (defScope sLeast) := ⟨rfl, rfl, rfl, by decide +kernel, rfl, by decide +kernel, by decide +kernel⟩
theorem nats_of : ∀ {ys : List Int}, (∀ y ∈ ys, (0 : Int) ≤ y) → ∃ ns : List Nat, ys = ns.map fun (n : Nat) => (n : Int)
  | [], _ => ⟨[], rfl⟩
  | y :: ys, h => by
    obtain ⟨ns, rfl⟩ := nats_of fun z hz => h z (List.mem_cons_of_mem _ hz)
    obtain ⟨n, rfl⟩ := Int.eq_ofNat_of_zero_le (h y List.mem_cons_self)
    exact ⟨n :: ns, rfl⟩
theorem ok_least {f : Addr} {fd : FuncData} (F : FnP K "least_masks" sLeast f fd) (LP : LibP mg) : FnOk P w K mg base CX0 2 f fd ["masks"] (spLeast K) := by
  refine okN F scLeast (fun vs H Q E h => ?_) (fun cdv A outer s H vs Q E hr h => ?_)
  · obtain ⟨_, _, rfl, _⟩ := h
    rfl
  · obtain ⟨l, ms, rfl, hl, le, k⟩ := h
    have nd := scLeast.nd
    refine ⟨_, pss_cons (ps_set (i := 1) nd rfl (Or.inl rfl) (pe_lst pa_nil))
      (pss_cons (ps_for PassesOwn.never rfl (pi_list (pe_sortI rfl (by rfl) LP.sorted (by rfl) LP.set (pv 0))) (pg_name (i := 2) nd rfl (Or.inl rfl))
        (pss_cons (ps_set (i := 3) nd rfl (Or.inl rfl) (pe_un un_inv (pv 2)))
        (pss_one (ps_forE PassesOwn.never rfl (pi_list (pv 1)) (pg_name (i := 4) nd rfl (Or.inl rfl)) (pss_one (ps_if (pt_not (pt_truth (pe_op op_and (pv 4) (pv 3)) (fun _ => rfl))) (pss_one ps_break) pss_nil))
          (pss_one (ps_expr (pe_bm PySem.F.plainAttrs_list PySem.F.slot_list_append PySem.F.type_list_append mt_append (pv 1) (pa_cons (pv 2) pa_nil))))))))
      (pss_one (ps_ret (pv 1)))), ?_⟩
    refine ⟨Nat.zero_le _, fun L nL => ?_⟩
    have sL := sn nL (o := .lst [])
    have hL : upd H L (.lst []) L = some (.lst []) := upd_same
    have hl1 := sL _ _ hl
    generalize upd H L (.lst []) = H1 at sL hL hl1 ⊢
    have em : mskV ms = (ms.map fun (n : Nat) => (n : Int)).map V.int := by unfold mskV; rw [List.map_map]; rfl
    refine ⟨_, rfl, l, ms.map fun (n : Nat) => (n : Int), rfl, SqL.of (em ▸ hl1), by rw [List.length_map]; omega, fun ys0 S so0 nd0 mem0 le0 nS => ?_⟩
    obtain ⟨ys, rfl⟩ := nats_of (ys := ys0) fun y hy => by
      obtain ⟨n, _, rfl⟩ := List.mem_map.mp ((mem0 y).mp hy)
      omega
    rw [List.length_map, List.length_map] at le0
    have so : ys.Pairwise (· ≤ ·) := (List.pairwise_map.mp so0).imp fun h => by omega
    have ndy : ys.Nodup := (List.pairwise_map.mp nd0).imp fun h e => h (by rw [e])
    have mem : ∀ m, m ∈ ys ↔ m ∈ ms := fun m => by
      have q := mem0 (m : Int)
      rw [List.mem_map, List.mem_map] at q
      refine ⟨fun h => ?_, fun h => ?_⟩
      · obtain ⟨n, hn, e⟩ := q.mp ⟨m, h, rfl⟩
        rwa [show n = m by omega] at hn
      · obtain ⟨n, hn, e⟩ := q.mpr ⟨m, h, rfl⟩
        rwa [show n = m by omega] at hn
    have eS : ((ys.map fun (n : Nat) => (n : Int)).map V.int) = mskV ys := by unfold mskV; rw [List.map_map]; rfl
    rw [eS]
    have s2 := sn nS (o := .lst (mskV ys))
    have hS : upd H1 S (.lst (mskV ys)) S = some (.lst (mskV ys)) := upd_same
    have hL2 := s2 _ _ hL
    have sH := sL.trans s2
    generalize upd H1 S (.lst (mskV ys)) = H2 at s2 hS hL2 sH ⊢
    have nLS : S ≠ L := Ne.symm (ne_of_none hL nS)
    refine ⟨S, rfl, ⟨_, SqL.of hS⟩, for_list (K := K) (a := S) (xs := mskV ys) (fun i σ H' => ∃ o2 o3 o4 : Option V, σ = [some (.ref l), some (.ref L), o2, o3, o4] ∧ H' L = some (.lst (mskV (leastM (ys.take i)))) ∧ H' S = some (.lst (mskV ys)) ∧ Same H H')
      ⟨none, none, none, rfl, hL2, hS, sH⟩ (fun i σ H' _ h => by obtain ⟨_, _, _, _, _, h, _⟩ := h; exact SqL.of h) ?_ ?_⟩
    · rintro i y σ H3 hi ⟨o2, o3, o4, rfl, q1, q2, q3⟩
      unfold mskV at hi
      rw [List.getElem?_map] at hi
      obtain ⟨m, hm, rfl⟩ := Option.map_eq_some_iff.mp hi
      have ll := leastM_len (ys.take i) []
      have lt := List.length_take_le' i ys
      have ll2 : (leastM (ys.take i)).length ≤ 900 := by
        unfold leastM
        rw [List.length_nil] at ll
        omega
      have stp : leastM (ys.take (i + 1)) = leastS (leastM (ys.take i)) m := by
        unfold leastM
        rw [List.take_succ, hm, List.foldl_append]
        rfl
      generalize hacc : leastM (ys.take i) = acc at q1 ll2 stp
      refine ⟨_, rfl, _, rfl, _, rfl, L, rfl, ⟨_, SqL.of q1⟩, fun j n σ H' => n = acc.length - j ∧ j ≤ acc.length ∧ (∃ o4 : Option V, σ = [some (.ref l), some (.ref L), some (.int (m : Int)), some (.int (Builtin.bitNot (m : Int))), o4]) ∧ holdB m (acc.take j) = false ∧ H' = H3,
        ⟨acc.length, rfl, Nat.zero_le _, ⟨_, rfl⟩, rfl, rfl⟩, ?_⟩
      rintro j n σ H' ⟨rfl, hj, ⟨o4, rfl⟩, hb, rfl⟩
      by_cases lj : j < acc.length
      · have ej : acc[j]? = some acc[j] := List.getElem?_eq_getElem lj
        generalize acc[j] = u at ej
        have em : (mskV acc)[j]? = some (.int (u : Int)) := by unfold mskV; rw [List.getElem?_map, ej]; rfl
        have tk : holdB m (acc.take (j + 1)) = (holdB m (acc.take j) || inB u m) := by
          unfold holdB
          rw [List.take_succ, ej, List.any_append]
          simp
        refine .inr ⟨⟨_, _, SqL.of q1, em⟩, fun σ' H4 => (∃ o4 : Option V, σ' = [some (.ref l), some (.ref L), some (.int (m : Int)), some (.int (Builtin.bitNot (m : Int))), o4]) ∧ holdB m (acc.take (j + 1)) = false ∧ H4 = H', fun σ' H4 p => ⟨acc.length - (j + 1), by omega, rfl, lj, p.1, p.2.1, p.2.2⟩, fun x H4 y => ?_⟩
        obtain ⟨rfl, y⟩ := y
        have ey := y _ (SqL.of q1)
        rw [em] at ey
        obtain rfl := Option.some.inj ey
        refine ⟨_, rfl, _, rfl, _, _, rfl, rfl, !(inB u m), ?_, ?_⟩
        · show (!(inB u m)) = (Builtin.bitAnd (u : Int) (Builtin.bitNot (m : Int)) != 0)
          rw [bandnot_nat]
          unfold inB
          cases e : u - (u &&& m) with
          | zero => rfl
          | succ z => rfl
        · cases e : inB u m with
          | true =>
            have ha : holdB m acc = true := by
              unfold holdB
              exact List.any_eq_true.mpr ⟨u, List.mem_of_getElem? ej, e⟩
            refine iteT ⟨_, _, _, rfl, ?_, q2, q3⟩
            rw [stp]
            unfold leastS
            rw [ha, if_pos rfl]
            exact q1
          | false => exact iteF ⟨⟨_, rfl⟩, by rw [tk, hb, e]; rfl, rfl⟩
      · have e0 : j = acc.length := by omega
        subst e0
        rw [List.take_length] at hb
        have lm : (mskV acc).length = acc.length := by unfold mskV; rw [List.length_map]
        refine .inl ⟨⟨_, SqL.of q1, by omega⟩, ?_⟩
        refine ⟨_, rfl, .inl ⟨rfl, _, SqL.of q1⟩, _, rfl, L, _, _, rfl, rfl, q1, small1000 (by omega), _, _, _, rfl, ?_, ?_, fun b o eb => ?_⟩
        · rw [upd_same, stp]
          unfold leastS
          rw [hb, if_neg Bool.false_ne_true]
          unfold mskV
          rw [List.map_append]
          rfl
        · rw [upd_ne nLS]
          exact q2
        · rw [upd_ne (ne_of_none eb nL)]
          exact q3 _ _ eb
    · rintro σ H3 ⟨o2, o3, o4, rfl, q1, q2, q3⟩
      have el : (mskV ys).length = ys.length := List.length_map _
      rw [el, List.take_length] at q1
      exact ⟨_, rfl, k L ys H3 q3 nL so ndy mem le0 q1⟩
end
end G14

set_option maxHeartbeats 8000000
namespace G14
open PySem PySem.Spec PyProof.Rows L2 G1
section
variable {P : Program} {w : World} {K : PySem.W.Frag} {mg : Str → Option Value} {base : Heap} {C : Addr}
abbrev sAhead : Stmt := top 38
abbrev nAhead : List Str := ["panel", "at", "entry", "row"]
theorem scAhead : FnScope nAhead ["panel", "at", "entry"] (defScope sAhead) := ⟨rfl, rfl, rfl, by decide +kernel, rfl, by decide +kernel, by decide +kernel⟩
theorem ok_ahead {f : Addr} {fd : FuncData} (F : FnP K "ahead" sAhead f fd) (L : Lib K mg) (LP : LibP mg) (N : PanP P w K mg base C) (DP : Df P w K mg base 1 "check_panel" sChkP ["panel"] (spChkP C)) (DA : Df P w K mg base 2 "check_position" sChkAt ["many", "at"] spChkAt)
    (DN : Df P w K mg base 1 "check_entry" sChkN ["entries", "entry"] (spChkN K)) : FnOk P w K mg base CX0 3 f fd ["panel", "at", "entry"] (spAhead C) := by
  refine okN F scAhead (fun vs H Q E h => ?_) (fun cdv A outer s H vs Q E hr h => ?_)
  · obtain ⟨_, _, _, _, _, _, rfl, _⟩ := h
    rfl
  · obtain ⟨a, i, xs, rs, r, z, rfl, ⟨pan, fre, le⟩, hr1, lr, hz, hzr, k⟩ := h
    obtain ⟨dx, gs, fr1, fr2, fr3, fr4⟩ := fre
    have li := (List.getElem?_eq_some_iff.mp hr1).1
    have r1 : Room 1 (A.deeper (envOfC "ahead" (defScope sAhead) s.heap.objs.size f cdv)) := hr.mono (by decide)
    refine ⟨_, pss_cons (ps_expr (pe_df DP r1 (by rfl) (pa_cons (pv 0) pa_nil)))
      (pss_cons (ps_expr (pe_df DA hr (by rfl) (pa_cons (pe_callB (call_lenP N hr) (by rfl) L.len PySem.boot_len (pa_cons (pv 0) pa_nil)) (pa_cons (pv 1) pa_nil))))
      (pss_cons (ps_expr (pe_df DN r1 (by rfl) (pa_cons (pe_mt (pv 0) N.cls N.en r1) (pa_cons (pv 2) pa_nil))))
      (pss_cons (ps_set (i := 3) scAhead.nd rfl (Or.inl rfl) (pe_ix ix_list (pe_mt (pv 0) N.cls N.rw r1) (pv 1) (fun _ _ => rfl)))
      (pss_one (ps_ret (pe_callB cr_sortedS (by rfl) LP.sorted (by decide +kernel) (pa_cons (pe_slice sl_list (pv 3) po_none (po_some (pe_bm PySem.F.plainAttrs_list PySem.F.slot_list_index PySem.F.type_list_index mt_index (pv 3) (pa_cons (pv 2) pa_nil)))) pa_nil))))))), ?_⟩
    refine ⟨_, rfl, a, dx, gs, rfl, fr1, ?_⟩
    refine ⟨_, rfl, a, dx, gs, (rs.length : Int), rfl, fr1, by omega, by omega, a, xs, rs, rfl, pan, rfl, _, rfl, (rs.length : Int), (i : Int), rfl, by omega, by omega, ?_⟩
    refine ⟨_, rfl, a, dx, gs, rfl, fr1, fr2, a, xs, rs, rfl, pan, fun D2 H3 s3 nD2 hD2 => ⟨_, rfl, D2, xs, z, rfl, SqL.of hD2, hz, ?_⟩⟩
    refine ⟨_, rfl, a, dx, gs, rfl, s3 _ _ fr1, fr3, a, xs, rs, rfl, pan.same s3, le, fun D3 as H4 s4 nD3 hD3 has _ _ => ?_⟩
    obtain ⟨c, hc, hc2⟩ := has.adr hr1
    have s14 := s3.trans s4
    refine ⟨_, rfl, D3, as.map V.ref, (i : Int), .ref c, rfl, rfl, SqL.of hD3, atI_nat (by rw [List.getElem?_map, hc]; rfl), ?_⟩
    obtain ⟨x1, x2, x3⟩ := idx_ok hzr
    refine ⟨_, rfl, _, rfl, .inl ⟨rfl, _, SqL.of hc2⟩, _, rfl, c, r.map V.str, .str z, r.idxOf z, .str z, rfl, rfl, SqL.of hc2, rfl, flat_strs, x1, x2, x3, _, rfl, c, _, rfl, SqL.of hc2, fun c2 nc2 => ?_⟩
    rw [cut_any (m := r.idxOf z), ← List.map_take]
    have s5 : Same H4 (upd H4 c2 (.lst ((r.take (r.idxOf z)).map V.str))) := sn nc2
    have f5 : upd H4 c2 (.lst ((r.take (r.idxOf z)).map V.str)) c2 = some (.lst ((r.take (r.idxOf z)).map V.str)) := upd_same
    generalize upd H4 c2 (.lst ((r.take (r.idxOf z)).map V.str)) = H5 at s5 f5 ⊢
    refine ⟨c2, r.take (r.idxOf z), rfl, SqL.of f5, by rw [List.length_take]; omega, fun ys p py so np => ?_⟩
    exact k ys p _ ((s14.trans s5).trans (sn np)) ((s14.trans s5).free np) upd_same so py
end
end G14

set_option maxHeartbeats 8000000
namespace G14
open PySem PySem.Spec PyProof.Rows L2 G1
theorem pw_rising : ∀ (p : Str) (l : List Str), (p :: l).Pairwise leS → risingS p l = true
  | p, [], _ => rfl
  | p, x :: r, h => by
    obtain ⟨h1, h2⟩ := List.pairwise_cons.mp h
    have l1 : leS p x := h1 x List.mem_cons_self
    show (!ltCps x.cps.toList p.cps.toList && risingS x r) = true
    rw [pw_rising x r h2, ltCps_eq, decide_eq_false l1]
    rfl
theorem pw_sorted {l : List Str} (h : l.Pairwise leS) : sortedS l = true := match l, h with
  | [], _ => rfl
  | x :: r, h => pw_rising x r h
theorem sorted_filter {l : List Str} {p : Str → Bool} (h : sortedS l = true) : sortedS (l.filter p) = true := pw_sorted ((sorted_pw h).sublist List.filter_sublist)
/-- without the entries of a lot -/
def less (zs r : List Str) : List Str := r.filter fun z => decide (z ∉ zs)
/-- [name for name in l if name not in lot], the step -/
theorem less_take {zs r : List Str} {i : Nat} {z : Str} (h : r[i]? = some z) : less zs (r.take (i + 1)) = less zs (r.take i) ++ (if z ∈ zs then [] else [z]) := by
  unfold less
  rw [List.take_succ, h, List.filter_append]
  congr 1
  show List.filter _ [z] = _
  rw [List.filter_cons]
  by_cases e : z ∈ zs
  · rw [if_pos e, decide_eq_false (fun q => q e), if_neg Bool.false_ne_true]
    rfl
  · rw [if_neg e, decide_eq_true e, if_pos rfl]
    rfl
end G14

set_option maxHeartbeats 4000000
/-! Several except clauses, each with the exception's name. -/
namespace G1
open PySem PySem.Spec PyProof.Rows L2
abbrev TsE : Type := Addr → Value → Option Addr → TS
/-- the clauses' wish, one behind the other -/
def wAll (K : PySem.W.Frag) (i : Nat) (Wout : WX) (D : Ends) : List (Value × TsE) → WX
  | [] => Wout
  | (c, ts) :: r => wAs K c i ts (wAll K i Wout D r) D
inductive HdsAs (X : Cx) (n : Str) : List ExceptHandler → List (Value × TsE) → Prop
  | nil : HdsAs X n [] []
  | cons {x : Str} {c : Value} {ts : TsE} {b0 : Stmt} {su : List Stmt} {q1 q2 : Pos} {hds : List ExceptHandler} {l : List (Value × TsE)} : Names X x c →
      (∀ (a : Addr) (oe : Obj) (cls : Value) (d : Option Addr) (pn : List (Addr × Obj)), Zc cls d oe → (∃ vs, oe.data = .fields vs) → PSs (X.suite a ((a, oe) :: pn)) (b0 :: su) (ts a cls d)) → HdsAs X n hds l →
      HdsAs X n (.ExceptHandler (some (.Name x q1)) (some n) (b0 :: su) q2 :: hds) ((c, ts) :: l)
section
variable {X : Cx} {body : List Stmt} {h0 : ExceptHandler} {hds : List ExceptHandler} {l : List (Value × TsE)} {pos : Pos} {tb : WX → TS} {Wout : WX} {n : Str} {i : Nat}
theorem ps_try_all (hs : X.stack = X.env :: X.outer) (hf : X.env.frame = some X.env.locals) (hN : X.N.Nodup) (hi : X.N[i]? = some n) (hln : X.env.kindOf n = some .local) (tk : Takes X Wout)
    (hb : ∀ (W : WX) (pn : List (Addr × Obj)) (xe : Value → Shared → Prop), Takes (X.tr pn xe) W → PassesOwn (model X.prog X.w) X.A X.env xe → PSs (X.tr pn xe) body (tb W)) (hh : HdsAs X n (h0 :: hds) l) :
    PS X (.Try body (h0 :: hds) [] [] pos) (fun D σ H => tb (wAll X.K i Wout D l) D σ H) := by
  refine ⟨fun pins s σ H D I h => wpAny_Try_except ?_⟩
  have ok := I.ok
  have frm : X.A.frames = some (X.env :: X.outer) := ok.frames.trans (by rw [hs])
  have loc : Loc X.env.scope n := .inl hln
  let xe0 : Value → Shared → Prop := fun e s1 => wpAny (model X.prog X.w) X.A (noteFrame e X.env) (fun _ s2 => wpAny (model X.prog X.w) X.A (setFlight e none) (fun _ s3 => wpAny (model X.prog X.w) X.A (handleBy e X.env (h0 :: hds)) (SP X pins D) X.xe s3) X.xe s2) X.xe s1
  have take0 : Takes (X.tr (X.pn ++ pins) xe0) (wAll X.K i Wout D l) := fun u s' xx => by
    obtain ⟨a, B, sI, pins', σ1, H1, cls, d, rfl, Jx, nb, up, sky, na, os, ag, w⟩ := xx
    have J : Inv X pins σ1 H1 sI := Jx.ofTry ok
    refine Sky.land Zc.steady frm hf (by rw [← hs]; exact sky : Sky B (X.env :: X.outer) a (Zc cls d) X.env.locals s'.heap) fun h3 fl up3 => ?_
    have J3 : Inv X pins σ1 H1 { s' with heap := h3 } := J.landed nb fl.1 (up.trans up3) os ag
    obtain ⟨o3, vs3, g3, z3, d3⟩ := fl.there
    have off : a ∉ frs (X.env :: X.outer) := fun hm => by
      obtain ⟨_, o', e', no⟩ := fl.2.2.1.mem hm
      rw [g3] at e'
      cases e'
      exact no _ d3
    have nL : a ≠ X.env.locals := fun q => off (List.mem_filterMap.mpr ⟨X.env, List.mem_cons_self, hf.trans (by rw [q])⟩)
    have nF : a ∉ X.fs := fun hm => by
      obtain ⟨ev, hev, q⟩ := List.mem_filterMap.mp hm
      exact off (List.mem_filterMap.mpr ⟨ev, List.mem_cons_of_mem _ hev, q⟩)
    have S3 := J3.suite g3 d3 na nL nF
    have LT : PySem.W.Looks (model X.prog X.w) h3 (typeOf (.ref a)) cls := fun A Q E t kp q => wpAny_typeOf_ref (kp _ _ g3) (z3.1 ▸ q)
    suffices go : ∀ {hds' : List ExceptHandler} {l' : List (Value × TsE)}, HdsAs X n hds' l' → wAll X.K i Wout D l' cls d σ1 H1 → wpAny (model X.prog X.w) X.A (handleBy (.ref a) X.env hds') (SP X pins D) X.xe { s' with heap := h3 } from go hh w
    intro hds' l' hk
    induction hk with
    | nil =>
      intro w
      obtain ⟨_, _, _, oe, vs, T, oT, _, he, hz, hd, h1, hr⟩ := id fl
      refine wpAny_handleBy_nil (by
        unfold PySem.passOn
        refine wpAny_bind (wpAny_field he hd h1 ?_)
        rw [if_neg (show ¬ ((Value.ref T == Value.none) = true) by simp)]
        have up0 : wpAny (model X.prog X.w) X.A (setFlight (.ref a) X.env.frame) (fun _ s4 => wpAny (model X.prog X.w) X.A (throw (.ref a) : Sem Flow) (SP X pins D) X.xe s4) X.xe { s' with heap := h3 } := by
          rw [hf]
          exact HandSPX.setFlight_upZ fl fun h4 hh4 up4 => wpAny_throw (tk _ _ ⟨a, B, sI, pins, σ1, H1, cls, d, rfl, J, nb, (up.trans up3).trans up4, .inr (.inr (by rw [hs]; exact hh4)), na, os, ag, w⟩)
        first
          | exact wpAny_bind (wpAny_pure (wpAny_bind up0))
          | exact wpAny_bind up0)
    | @cons x c ts b0 su q1 q2 hds2 l2 hc hsu r ih =>
      intro w
      obtain ⟨b, hb1, yes, no⟩ := w
      refine wpAny_handleBy_cons (codeAny_handlers_test ?_) (by intro q; cases q)
      have test : ∀ {Q : Value → Shared → Prop} {E : Value → Shared → Prop}, Q c { s' with heap := h3 } → wpAny (model X.prog X.w) (X.A.mark (some (.ref a))) (eval (.Name x q1) X.env) Q E { s' with heap := h3 } := fun q => by
        obtain ⟨hg, hdbg, hm | ⟨hm, hv, hnn⟩⟩ := hc
        · exact ld_glob (X := X.suite a ((a, o3) :: (X.pn ++ pins))) S3 hg hm q hdbg
        · exact ld_blt (X := X.suite a ((a, o3) :: (X.pn ++ pins))) S3 hg hm hv q hnn hdbg
      refine test ((PySem.W.exm_one (M := model X.prog X.w) J3.kIn LT hb1).here ?_)
      cases b with
      | false =>
        show wpAny _ X.A (handleBy (.ref a) X.env hds2) _ _ _
        exact ih (no rfl)
      | true =>
        refine codeAny_handlers_suite_as (HandSPX.lands_againZ fl fun h4 fl4 up4 => ?_)
        obtain ⟨o4, vs4, g4, z4, d4⟩ := fl4.there
        have S4 := (J.landed nb fl4.1 ((up.trans up3).trans up4) os ag : Inv X pins σ1 H1 { s' with heap := h4 }).suite g4 d4 na nL nF
        refine store_ok (X := X.suite a ((a, o4) :: (X.pn ++ pins))) (v := .ref a) S4 hN hi loc rfl (fun s5 S5 => ?_) (.inr hln)
        refine wpAny_mono ((hsu a o4 cls d (X.pn ++ pins) z4 ⟨_, d4⟩).run [] s5 _ H1 _ S5 (yes rfl a na)) (fun fl s6 res => ?_) (fun _ _ z => False.elim z)
        have close : ∀ {σ6 : L2.St} {H6 : Hp} {Q : Shared → Prop}, Inv (X.suite a ((a, o4) :: (X.pn ++ pins))) [] σ6 H6 s6 → (∀ s7, Inv X pins (σ6.set i none) H6 s7 → Q s7) →
            wpAny (model X.prog X.w) X.A (do bindName X.env n .none; unbindBehindTheSuite X.env n q2) (fun _ s7 => Q s7) X.xe s6 := fun S6 hq => gone_ok (S6.unsuite ok) hN hi hln hq
        match fl, res with
        | .next, ⟨_, _, S6, q6⟩ => exact close S6 fun s7 J7 => ⟨_, _, J7, q6⟩
        | .brk, ⟨_, _, S6, q6⟩ => exact close S6 fun s7 J7 => ⟨_, _, J7, q6⟩
        | .cont, ⟨_, _, S6, q6⟩ => exact close S6 fun s7 J7 => ⟨_, _, J7, q6⟩
        | .ret u, ⟨_, _, _, S6, r6, q6⟩ => exact close S6 fun s7 J7 => ⟨_, _, _, J7, r6, q6⟩
  refine wpAny_mono ((hb _ (X.pn ++ pins) xe0 take0 PassesOwn.looking).run [] s σ H D (I.toTry _) h) (fun fl s1 res => ?_) (fun _ _ z => z)
  match fl, res with
  | .next, ⟨σ1, H1, J, q⟩ => exact wpAny_execs_nil ⟨σ1, H1, J.ofTry ok, q⟩
  | .brk, ⟨σ1, H1, J, q⟩ => exact ⟨σ1, H1, J.ofTry ok, q⟩
  | .cont, ⟨σ1, H1, J, q⟩ => exact ⟨σ1, H1, J.ofTry ok, q⟩
  | .ret u, ⟨v, σ1, H1, J, r, q⟩ => exact ⟨v, σ1, H1, J.ofTry ok, r, q⟩
end
end G1

set_option maxHeartbeats 8000000
namespace G14
open PySem PySem.Spec PyProof.Rows L2 G1
/-! ### equal rows -/
def atR (rs : List (List Str)) (i : Nat) : List Str := rs.getD i []
def firstsTo (rs : List (List Str)) (n : Nat) : List Nat := (List.range n).filter fun i => decide (rs.idxOf (atR rs i) = i)
def grpTo (rs : List (List Str)) (n : Nat) (r : List Str) : List Nat := (List.range n).filter fun j => decide (atR rs j = r)
def eqRows (rs : List (List Str)) : List (List Nat) := (firstsTo rs rs.length).map fun i => grpTo rs rs.length (atR rs i)
def plainRows (rs : List (List Str)) : List (List Str) := (firstsTo rs rs.length).map (atR rs)
theorem atR_of {rs : List (List Str)} {i : Nat} {r : List Str} (h : rs[i]? = some r) : atR rs i = r := by
  unfold atR
  rw [List.getD_eq_getElem?_getD, h]
  rfl
theorem range_filter {p : Nat → Bool} {n : Nat} : (List.range (n + 1)).filter p = (List.range n).filter p ++ (if p n = true then [n] else []) := by
  rw [List.range_succ, List.filter_append]
  congr 1
  rw [List.filter_cons]
  cases p n <;> rfl
/-- lists of positions at these places -/
inductive NatsAt (H : Hp) : List Addr → List (List Nat) → Prop
  | nil : NatsAt H [] []
  | cons {a : Addr} {r : List Nat} {as : List Addr} {rs : List (List Nat)} : H a = some (.lst (natsV r)) → NatsAt H as rs → NatsAt H (a :: as) (r :: rs)
theorem NatsAt.keep {H H' : Hp} {as : List Addr} {rs : List (List Nat)} (h : NatsAt H as rs) (k : ∀ a ∈ as, ∀ o, H a = some o → H' a = some o) : NatsAt H' as rs := by
  induction h with
  | nil => exact .nil
  | cons e _ ih => exact .cons (k _ List.mem_cons_self _ e) (ih fun a ha => k a (List.mem_cons_of_mem _ ha))
theorem NatsAt.same {H H' : Hp} {as : List Addr} {rs : List (List Nat)} (h : NatsAt H as rs) (s : Same H H') : NatsAt H' as rs := h.keep fun a _ o e => s a o e
theorem NatsAt.snoc {H : Hp} {a : Addr} {r : List Nat} {as : List Addr} {rs : List (List Nat)} (h : NatsAt H as rs) (e : H a = some (.lst (natsV r))) : NatsAt H (as ++ [a]) (rs ++ [r]) := by
  induction h with
  | nil => exact .cons e .nil
  | cons e2 _ ih => exact .cons e2 ih
theorem NatsAt.len {H : Hp} {as : List Addr} {rs : List (List Nat)} (h : NatsAt H as rs) : as.length = rs.length := by
  induction h with
  | nil => rfl
  | cons _ _ ih => rw [List.length_cons, List.length_cons, ih]
/-! ### deep equality of rows -/
theorem eqv_strs : ∀ {xs ys : List Str}, PyData.eqvAll (xs.map PyData.str) (ys.map PyData.str) = decide (xs = ys)
  | [], [] => by simp [PyData.eqvAll]
  | [], y :: ys => by simp [PyData.eqvAll]
  | x :: xs, [] => by simp [PyData.eqvAll]
  | x :: xs, y :: ys => by
    have ih := @eqv_strs xs ys
    show (PyData.eqv (.str x) (.str y) && PyData.eqvAll (xs.map PyData.str) (ys.map PyData.str)) = _
    rw [ih]
    show ((x == y) && decide (xs = ys)) = _
    by_cases e : x = y
    · subst e
      simp
    · rw [beq_eq_false_iff_ne.mpr e, Bool.false_and, decide_eq_false (fun q => e (by injection q))]
theorem eqv_rd {a b : List Str} : PyData.eqv (rd a) (rd b) = decide (a = b) := by
  show PyData.eqvAll (a.map PyData.str) (b.map PyData.str) = _
  exact eqv_strs
/-- rows.index(row), rows with small names -/
theorem idx_rows {rs : List (List Str)} {i : Nat} {r : List Str} (h : rs[i]? = some r) : (rs.map rd)[rs.idxOf r]? = some (rd r) ∧ PyData.eqv (rd r) (rd r) = true ∧ ∀ (m : Nat) (z : PyData), m < rs.idxOf r → (rs.map rd)[m]? = some z → PyData.eqv z (rd r) = false := by
  have hm : r ∈ rs := List.mem_of_getElem? h
  have lt := List.idxOf_lt_length_of_mem hm
  refine ⟨?_, by rw [eqv_rd, decide_eq_true rfl], fun m y lm e => ?_⟩
  · rw [List.getElem?_map, List.getElem?_eq_getElem lt, List.getElem_idxOf lt]
    rfl
  · rw [List.getElem?_map] at e
    obtain ⟨x, hx, rfl⟩ := Option.map_eq_some_iff.mp e
    rw [eqv_rd]
    have lm2 : m < rs.length := by omega
    rw [List.getElem?_eq_getElem lm2] at hx
    have hx2 : rs[m] = x := Option.some.inj hx
    have := List.not_of_lt_findIdx (p := (· == r)) (xs := rs) lm
    rw [← hx2]
    refine decide_eq_false fun q => ?_
    rw [q] at this
    simp at this
/-- what is known of entries and rows -/
structure Good (xs : List Str) (rs : List (List Str)) : Prop where
  nm : ∀ z ∈ xs, Nm z
  nd : xs.Nodup
  l1 : 1 ≤ xs.length
  l6 : xs.length ≤ 7
  so : sortedS xs = true
  pr : ∀ r ∈ rs, r.Perm xs
  r1 : 1 ≤ rs.length
  r8 : rs.length ≤ 10
theorem Good.fine {xs : List Str} {rs : List (List Str)} (g : Good xs rs) : FineN (rsd rs) 2 (64 * rs.length) := (fine_rows fun r hr => ⟨fun z hz => g.nm z ((g.pr r hr).mem_iff.mp hz), by rw [(g.pr r hr).length_eq]; exact g.l6⟩).list
theorem Good.row {xs : List Str} {rs : List (List Str)} (g : Good xs rs) {r : List Str} (hr : r ∈ rs) : FineN (rd r) 1 63 := fine_row (fun z hz => g.nm z ((g.pr r hr).mem_iff.mp hz)) (by rw [(g.pr r hr).length_eq]; exact g.l6)
def spTurned (C : Addr) : Sp := fun vs H Q _ => ∃ (a : Addr) (xs : List Str) (rs : List (List Str)), vs = [.ref a] ∧ PanF H C a xs rs ∧ Good xs rs ∧
  ∀ (PN : Addr) (H' : Hp), Same H H' → H PN = none → PanF H' C PN xs (rs.map List.reverse) → Q (.ref PN) H'
def spPlainP (C : Addr) : Sp := fun vs H Q _ => ∃ (a : Addr) (xs : List Str) (rs : List (List Str)), vs = [.ref a] ∧ PanF H C a xs rs ∧ Good xs rs ∧
  ∀ (PN : Addr) (H' : Hp), Same H H' → H PN = none → PanF H' C PN xs (plainRows rs) → Q (.ref PN) H'
def spEqRows (C : Addr) : Sp := fun vs H Q _ => ∃ (a : Addr) (xs : List Str) (rs : List (List Str)), vs = [.ref a] ∧ PanF H C a xs rs ∧ Good xs rs ∧
  ∀ (D : Addr) (gs : List Addr) (H' : Hp), Same H H' → H D = none → H' D = some (.lst (gs.map V.ref)) → NatsAt H' gs (eqRows rs) → (∀ g ∈ gs, H g = none ∧ g ≠ D) → Q (.ref D) H'
theorem firstsTo_lt {rs : List (List Str)} {n i : Nat} (h : i ∈ firstsTo rs n) : i < n := List.mem_range.mp (List.mem_filter.mp h).1
theorem plainRows_sub {rs : List (List Str)} {r : List Str} (h : r ∈ plainRows rs) : r ∈ rs := by
  obtain ⟨i, hi, rfl⟩ := List.mem_map.mp h
  have lt := firstsTo_lt hi
  have e : rs[i]? = some rs[i] := List.getElem?_eq_getElem lt
  rw [atR_of e]
  exact List.mem_of_getElem? e
theorem plainRows_len {rs : List (List Str)} : (plainRows rs).length ≤ rs.length := by
  unfold plainRows firstsTo
  rw [List.length_map]
  exact Nat.le_trans (List.length_filter_le _ _) (by rw [List.length_range]; exact Nat.le_refl _)
theorem plainRows_pos {rs : List (List Str)} (h : 1 ≤ rs.length) : 1 ≤ (plainRows rs).length := by
  have e : rs[0]? = some (rs[0]'(by omega)) := List.getElem?_eq_getElem _
  have m : 0 ∈ firstsTo rs rs.length := by
    refine List.mem_filter.mpr ⟨List.mem_range.mpr (by omega), decide_eq_true ?_⟩
    rw [atR_of e]
    cases rs with
    | nil => simp at h
    | cons r t => simp
  exact List.length_pos_of_mem (List.mem_map.mpr ⟨0, m, rfl⟩)
theorem Good.rev {xs : List Str} {rs : List (List Str)} (g : Good xs rs) : Good xs (rs.map List.reverse) := ⟨g.nm, g.nd, g.l1, g.l6, g.so, fun y hy => by
  obtain ⟨r, hr, rfl⟩ := List.mem_map.mp hy
  exact r.reverse_perm.trans (g.pr r hr), by rw [List.length_map]; exact g.r1, by rw [List.length_map]; exact g.r8⟩
theorem Good.plain {xs : List Str} {rs : List (List Str)} (g : Good xs rs) : Good xs (plainRows rs) := ⟨g.nm, g.nd, g.l1, g.l6, g.so, fun y hy => g.pr y (plainRows_sub hy), plainRows_pos g.r1, Nat.le_trans plainRows_len g.r8⟩
section
variable {P : Program} {w : World} {K : PySem.W.Frag} {mg : Str → Option Value} {base : Heap} {C : Addr}
end
end G14

set_option maxHeartbeats 8000000
namespace G14
open PySem PySem.Spec PyProof.Rows L2 G1
/-- at each address stands what is asked of it -/
inductive ObAt {α : Type} (H : Hp) (Pv : α → HO → Prop) : List Addr → List α → Prop
  | nil : ObAt H Pv [] []
  | cons {a : Addr} {x : α} {o : HO} {as : List Addr} {xs : List α} : H a = some o → Pv x o → ObAt H Pv as xs → ObAt H Pv (a :: as) (x :: xs)
section
variable {α : Type} {H H' : Hp} {Pv : α → HO → Prop}
theorem ObAt.keep {as : List Addr} {xs : List α} (h : ObAt H Pv as xs) (k : ∀ a ∈ as, ∀ o, H a = some o → H' a = some o) : ObAt H' Pv as xs := by
  induction h with
  | nil => exact .nil
  | cons e p _ ih => exact .cons (k _ List.mem_cons_self _ e) p (ih fun a ha => k a (List.mem_cons_of_mem _ ha))
theorem ObAt.same {as : List Addr} {xs : List α} (h : ObAt H Pv as xs) (s : Same H H') : ObAt H' Pv as xs := h.keep fun a _ o e => s a o e
theorem ObAt.len {as : List Addr} {xs : List α} (h : ObAt H Pv as xs) : as.length = xs.length := by
  induction h with
  | nil => rfl
  | cons _ _ _ ih => rw [List.length_cons, List.length_cons, ih]
theorem ObAt.snoc {as : List Addr} {xs : List α} {a : Addr} {x : α} {o : HO} (h : ObAt H Pv as xs) (e : H a = some o) (p : Pv x o) : ObAt H Pv (as ++ [a]) (xs ++ [x]) := by
  induction h with
  | nil => exact .cons e p .nil
  | cons e2 p2 _ ih => exact .cons e2 p2 ih
theorem ObAt.at {as : List Addr} {xs : List α} (h : ObAt H Pv as xs) : ∀ {i : Nat} {a : Addr}, as[i]? = some a → ∃ x o, xs[i]? = some x ∧ H a = some o ∧ Pv x o := by
  induction h with
  | nil => intro i a e; cases e
  | @cons a0 x0 o0 as xs e0 p0 _ ih =>
    intro i a e
    match i, e with
    | 0, e =>
      cases e
      exact ⟨x0, o0, rfl, e0, p0⟩
    | i + 1, e => exact ih e
end
/-- a row's masks -/
def PAh (xs : List Str) (r : List Str) (o : HO) : Prop := o = .dK (dN r (aheadV xs r))
/-- what is told of the rows a mask is asked of -/
structure Rw (xs : List Str) (rs : List (List Str)) : Prop where
  nd : xs.Nodup
  le : xs.length ≤ 40
  pr : ∀ r ∈ rs, r.Perm xs
  l60 : rs.length ≤ 60
  so : sortedS xs = true
  r1 : 1 ≤ rs.length
theorem Good.rw {xs : List Str} {rs : List (List Str)} (g : Good xs rs) : Rw xs rs := ⟨g.nd, by have := g.l6; omega, g.pr, by have := g.r8; omega, g.so, g.r1⟩
def spAMs (C : Addr) : Sp := fun vs H Q _ => ∃ (a : Addr) (xs : List Str) (rs : List (List Str)), vs = [.ref a] ∧ PanF H C a xs rs ∧ Rw xs rs ∧
  ∀ (D : Addr) (ds : List Addr) (H' : Hp), Same H H' → H D = none → H' D = some (.lst (ds.map V.ref)) → ObAt H' (PAh xs) ds rs → (∀ d ∈ ds, H d = none ∧ d ≠ D) → Q (.ref D) H'
/-- the least masks of one name -/
def LeastOf (xs : List Str) (rs : List (List Str)) (x : Str) (zs : List Nat) : Prop := ∃ ys : List Nat, ys.Pairwise (· ≤ ·) ∧ ys.Nodup ∧ (∀ m, m ∈ ys ↔ m ∈ rs.map fun r => aheadM xs r x) ∧ ys.length ≤ rs.length ∧ zs = leastM ys
/-- a family: for each name the list of its least masks -/
def FamAt (H : Hp) (D : Addr) (xs : List Str) (rs : List (List Str)) : Prop := ∃ g : Str → Addr, H D = some (.dK (dN xs fun x => .ref (g x))) ∧ ∀ x ∈ xs, ∃ zs, LeastOf xs rs x zs ∧ H (g x) = some (.lst (mskV zs))
theorem FamAt.same {H H' : Hp} {D : Addr} {xs : List Str} {rs : List (List Str)} (h : FamAt H D xs rs) (s : Same H H') : FamAt H' D xs rs := by
  obtain ⟨g, h1, h2⟩ := h
  refine ⟨g, s _ _ h1, fun x hx => ?_⟩
  obtain ⟨zs, z1, z2⟩ := h2 x hx
  exact ⟨zs, z1, s _ _ z2⟩
theorem least_uniq {xs : List Str} {rs : List (List Str)} {x : Str} {zs ws : List Nat} (h1 : LeastOf xs rs x zs) (h2 : LeastOf xs rs x ws) : zs = ws := by
  obtain ⟨ys, a1, a2, a3, _, rfl⟩ := h1
  obtain ⟨us, b1, b2, b3, _, rfl⟩ := h2
  have p : ys.Perm us := (List.perm_ext_iff_of_nodup a2 b2).mpr fun m => by rw [a3, b3]
  have e : ys = us := p.eq_of_pairwise (fun a b _ _ h1 h2 => Nat.le_antisymm h1 h2) a1 b1
  rw [e]
def spLA (C : Addr) : Sp := fun vs H Q _ => ∃ (a : Addr) (xs : List Str) (rs : List (List Str)), vs = [.ref a] ∧ PanF H C a xs rs ∧ Rw xs rs ∧ ∀ (D : Addr) (H' : Hp), Same H H' → H D = none → FamAt H' D xs rs → Q (.ref D) H'
section
variable {P : Program} {w : World} {K : PySem.W.Frag} {mg : Str → Option Value} {base : Heap} {C : Addr}
abbrev sAMs : Stmt := top 39
abbrev nAMs : List Str := ["panel", "bits", "row"]
theorem scAMs : FnScope nAMs ["panel"] (defScope sAMs) := ⟨rfl, rfl, rfl, by decide +kernel, rfl, by decide +kernel, by decide +kernel⟩
theorem ok_aMs {f : Addr} {fd : FuncData} (F : FnP K "ahead_masks" sAMs f fd) (N : PanP P w K mg base C) (DB : Df P w K mg base 1 "bits_of" sBits ["entries"] spBits) (DM : Df P w K mg base 1 "masks_ahead" sMAhead ["bits", "row"] spMAhead) :
    FnOk P w K mg base CX0 2 f fd ["panel"] (spAMs C) := by
  refine okN F scAMs (fun vs H Q E h => ?_) (fun cdv A outer s H vs Q E hr h => ?_)
  · obtain ⟨_, _, _, rfl, _⟩ := h
    rfl
  · obtain ⟨a, xs, rs, rfl, pan, g, k⟩ := h
    obtain ⟨dx, gs, fr1, fr2, fr3, fr4⟩ := id pan.fre
    have nd := scAMs.nd
    refine ⟨_, pss_cons (ps_set (i := 1) nd rfl (Or.inr rfl) (pe_df DB hr (by rfl) (pa_cons (pe_mt (pv 0) N.cls N.en hr) pa_nil)))
      (pss_one (ps_ret (pe_lc (own := [("row", 2)]) (g := gName 2) (tt := tYes) (te := tCall spMAhead [] E0 (tCons (tVar 1) (tCons (tVar 2) tNil))) rfl nd (pi_list (pe_mt (pv 0) N.cls N.rw hr))
        (blkOk_by (N := nAMs) (sc := defScope sAMs) (by decide +kernel)) (fun _ _ _ _ _ => pg_name (i := 2) scAMs.nd rfl (Or.inl rfl)) (fun _ _ _ _ _ => pts_nil) (fun _ _ _ _ _ => pe_df DM hr (by rfl) (pa_cons (pv 1) (pa_cons (pv 2) pa_nil)))))), ?_⟩
    refine ⟨_, rfl, a, dx, gs, rfl, fr1, fr2, a, xs, rs, rfl, pan.at_, fun E1 H1 s1 nE1 hE1 => ⟨E1, xs, rfl, hE1, g.nd, g.le, fun B H2 s2 nB hB => ?_⟩⟩
    have s12 := s1.trans s2
    refine ⟨_, rfl, a, dx, gs, rfl, s12 _ _ fr1, fr3, a, xs, rs, rfl, pan.at_.same s12, pan.le, fun R as H3 s3 nR hR has _ _ => ?_⟩
    have s13 := s12.trans s3
    have hB3 := s3 _ _ hB
    refine ⟨R, rfl, ⟨_, SqL.of hR⟩, fun D nD => lc_list (K := K) (a := R) (xs := as.map V.ref) (fun i H' => ∃ ds : List Addr, H' D = some (.lst (ds.map V.ref)) ∧ ObAt H' (PAh xs) ds (rs.take i) ∧ (∀ d ∈ ds, H d = none ∧ d ≠ D) ∧ Same H3 H')
      ⟨[], upd_same, .nil, (fun d hd => nomatch hd), sn nD⟩ (fun i H' _ h => by obtain ⟨_, _, _, _, h⟩ := h; exact SqL.of (h _ _ hR)) ?_ ?_⟩
    · rintro i y H4 hi ⟨ds, q1, q2, q3, q4⟩
      rw [List.getElem?_map] at hi
      obtain ⟨c, hc, rfl⟩ := Option.map_eq_some_iff.mp hi
      obtain ⟨r, hr1, hr2⟩ := has.at hc
      have pr := g.pr r (List.mem_of_getElem? hr1)
      refine ⟨rfl, _, rfl, _, rfl, B, c, xs, r, rfl, q4 _ _ hB3, q4 _ _ hr2, g.nd, pr.nodup_iff.mpr g.nd, fun z hz => pr.mem_iff.mp hz, by rw [pr.length_eq]; exact g.le, fun G H5 s5 nG hG => ?_⟩
      have nGD : G ≠ D := Ne.symm (ne_of_none q1 nG)
      have := g.l60
      refine ⟨_, s5 _ _ q1, small1000 (by rw [List.length_map, q2.len, List.length_take]; omega), ds ++ [G], by rw [upd_same, List.map_append]; rfl, ?_, fun m hm => ?_, fun b o e => ?_⟩
      · rw [List.take_succ, hr1]
        exact ObAt.snoc ((q2.same s5).keep fun x hx o e => by rw [upd_ne (q3 x hx).2]; exact e) (by rw [upd_ne nGD]; exact hG) rfl
      · rcases List.mem_append.mp hm with h | h
        · exact q3 m h
        · rw [List.mem_singleton.mp h]
          exact ⟨(s13.trans q4).free nG, nGD⟩
      · rw [upd_ne (ne_of_none e nD)]
        exact s5 _ _ (q4 _ _ e)
    · rintro H4 ⟨ds, q1, q2, q3, q4⟩
      rw [List.length_map, has.len, List.take_length] at q2
      exact k D ds H4 (s13.trans q4) (s13.free nD) q1 q2 q3
def spLBy : Sp := fun vs H Q _ => ∃ (SD : Addr) (ds : List Addr) (xs : List Str) (rs : List (List Str)), vs = [.ref SD] ∧ H SD = some (.lst (ds.map V.ref)) ∧ ObAt H (PAh xs) ds rs ∧ Rw xs rs ∧ ∀ (D : Addr) (H' : Hp), Same H H' → H D = none → FamAt H' D xs rs → Q (.ref D) H'
abbrev sLBy : Stmt := top 41
abbrev nLBy : List Str := ["stewards", "name", "masks"]
theorem scLBy : FnScope nLBy ["stewards"] (defScope sLBy) := ⟨rfl, rfl, rfl, by decide +kernel, rfl, by decide +kernel, by decide +kernel⟩
def scLAIn : Scope := { kind := .function, names := [(Str.ofString ".0", .local), (Str.ofString "name", .cell), (Str.ofString "least_masks", .globalImplicit), (Str.ofString "stewards", .cell)], isGenerator := false, isCoroutine := false }
theorem ok_lBy {f : Addr} {fd : FuncData} (F : FnP K "least_by" sLBy f fd) (LP : LibP mg) (DL : Df P w K mg base 2 "least_masks" sLeast ["masks"] (spLeast K)) : FnOk P w K mg base CX0 3 f fd ["stewards"] spLBy := by
  refine okN F scLBy (fun vs H Q E h => ?_) (fun cdv A outer s H vs Q E hr h => ?_)
  · obtain ⟨_, _, _, _, rfl, _⟩ := h
    rfl
  · obtain ⟨SD, ds, xs, rs, rfl, hSD0, hds0, g0, k⟩ := h
    have hun := hr.un
    have nd := scLBy.nd
    have hu1 : (A.deeper (envOfC "least_by" (defScope sLBy) s.heap.objs.size f cdv)).units + 1 < cLine := by omega
    refine ⟨_, pss_one (ps_ret (pe_dc (own := [("name", 1)]) (g := gName 1) (tt := tYes) (tk := tVar 1) (tv := tCall (spLeast K) [] E0 (tCons (tLc (iList K (tVar 0)) (gName 2) tYes (tDGet (tVar 2) (tVar 1)) [2]) tNil)) rfl nd
        (pi_list (pe_callB (call_sortedD rfl) (by rfl) LP.sorted (by decide +kernel) (pa_cons (pe_ix ix_list (pv 0) pe_int (fun _ _ => rfl)) pa_nil)))
        (blkOk_by (N := nLBy) (sc := defScope sLBy) (by decide +kernel)) (fun _ _ _ _ _ => pg_name (i := 1) scLBy.nd rfl (Or.inr rfl)) (fun _ _ _ _ _ => pts_nil) (fun _ _ _ _ _ => pv 1)
        (fun _ _ _ _ _ => pe_df DL hr (by rfl) (pa_cons (pe_lc (own := [("masks", 2)]) (g := gName 2) (tt := tYes) (te := tDGet (tVar 2) (tVar 1)) (by rfl) scLBy.nd (pi_list (pv 0))
          (blkOk_by (N := nLBy) (sc := scLAIn) (by decide +kernel)) (fun _ _ _ _ _ => pg_name (i := 2) scLBy.nd rfl (Or.inl rfl)) (fun _ _ _ _ _ => pts_nil) (fun _ _ _ _ _ => pe_dget hu1 (pv 2) (pv 1) (fun _ _ => rfl))) pa_nil)))), ?_⟩
    have r1' := g0.r1
    have ld := hds0.len
    have e0 : ds[0]? = some (ds[0]'(by omega)) := List.getElem?_eq_getElem _
    obtain ⟨r0, o0, hr0, hd0, rfl⟩ := hds0.at e0
    have p0 := g0.pr r0 (List.mem_of_getElem? hr0)
    have l0 := p0.length_eq
    have le40 := g0.le
    refine ⟨_, rfl, SD, _, ((0 : Nat) : Int), .ref (ds[0]'(by omega)), rfl, rfl, SqL.of hSD0, atI_nat (by rw [List.getElem?_map, e0]; rfl), _, _, r0, rfl, .inl hd0, ?_, by omega, fun us E1 pus so nE1 => ?_⟩
    · unfold dN
      rw [List.map_map]
      rfl
    obtain rfl : us = xs := sorted_uniq so g0.so (pus.trans p0)
    refine ⟨E1, rfl, ⟨_, SqL.of upd_same⟩, fun D nD => ?_⟩
    have s12 := sn nE1 (o := .lst (us.map V.str))
    have hE1 : upd H E1 (.lst (us.map V.str)) E1 = some (.lst (us.map V.str)) := upd_same
    have hSD2 := s12 _ _ hSD0
    have hds2 := hds0.same s12
    have hds := hds0
    generalize upd H E1 (.lst (us.map V.str)) = H2 at s12 hE1 nD hSD2 hds2 ⊢
    have I : ∀ {H' : Hp}, Same H2 H' → SqL K H' E1 (us.map V.str) := fun s => SqL.of (s _ _ hE1)
    have l40 := g0.le
    have l60 := g0.l60
    refine ⟨fun i m H' => m = us.length - i ∧ i ≤ us.length ∧ (∃ g : Str → Addr, H' D = some (.dK (dN (us.take i) fun x => .ref (g x))) ∧ ∀ x ∈ us.take i, g x ≠ D ∧ ∃ zs, LeastOf us rs x zs ∧ H' (g x) = some (.lst (mskV zs))) ∧ Same H2 H', ⟨us.length, rfl, Nat.zero_le _, ⟨fun _ => D, upd_same, fun x hx => nomatch hx⟩, sn nD⟩, ?_⟩
    rintro i m H3 ⟨rfl, hi, ⟨g, hD, hg⟩, s3⟩
    by_cases lt : i < us.length
    · have ex : us[i]? = some us[i] := List.getElem?_eq_getElem lt
      have em : (us.map V.str)[i]? = some (.str us[i]) := by rw [List.getElem?_map, ex]; rfl
      have mem := List.mem_of_getElem? ex
      refine .inr ⟨⟨_, _, I s3, em⟩, fun H' => (∃ g : Str → Addr, H' D = some (.dK (dN (us.take (i + 1)) fun x => .ref (g x))) ∧ ∀ x ∈ us.take (i + 1), g x ≠ D ∧ ∃ zs, LeastOf us rs x zs ∧ H' (g x) = some (.lst (mskV zs))) ∧ Same H2 H', fun H' p => ⟨us.length - (i + 1), by omega, rfl, lt, p.1, p.2⟩, fun v H0 y => ?_⟩
      obtain ⟨rfl, y⟩ := y
      have ey := y _ (I s3)
      rw [em] at ey
      obtain rfl := Option.some.inj ey
      generalize hx : us[i] = x at ex em mem y ⊢
      refine ⟨rfl, _, rfl, _, rfl, SD, rfl, ⟨_, SqL.of (s3 _ _ hSD2)⟩, fun M nM => lc_list (K := K) (a := SD) (xs := ds.map V.ref) (fun j H' => H' M = some (.lst (mskV ((rs.take j).map fun r => aheadM us r x))) ∧ Same H0 H') ⟨upd_same, sn nM⟩ (fun j H' _ h => SqL.of ((s3.trans h.2) _ _ hSD2)) ?_ ?_⟩
      · rintro j y H4 hj ⟨q1, q2⟩
        rw [List.getElem?_map] at hj
        obtain ⟨d, hd, rfl⟩ := Option.map_eq_some_iff.mp hj
        obtain ⟨r, o, hr1, hr2, rfl⟩ := (hds2.same (s3.trans q2)).at hd
        have zr : x ∈ r := (g0.pr r (List.mem_of_getElem? hr1)).mem_iff.mpr mem
        refine ⟨rfl, _, rfl, _, rfl, d, _, rfl, dN_get hr2 zr, _, q1, small1000 (by unfold mskV; rw [List.length_map, List.length_map, List.length_take]; omega), ?_, fun b o e => ?_⟩
        · rw [upd_same, List.take_succ, hr1, List.map_append]
          unfold mskV
          rw [List.map_append]
          rfl
        · rw [upd_ne (ne_of_none e nM)]
          exact q2 _ _ e
      · rintro H4 ⟨q1, q2⟩
        rw [List.length_map, hds.len, List.take_length] at q1
        refine ⟨M, _, rfl, q1, by rw [List.length_map]; omega, fun Lx ys H5 s5 nL so ndy memy ley hL => ?_⟩
        have s35 := q2.trans s5
        have nLD : Lx ≠ D := Ne.symm (ne_of_none (q2 _ _ hD) nL)
        have nx : x ∉ us.take i := fun q => by
          obtain ⟨j, hj, e⟩ := List.mem_iff_getElem.mp q
          rw [List.length_take] at hj
          rw [List.getElem_take] at e
          exact List.pairwise_iff_getElem.mp g0.nd j i (by omega) lt (by omega) (e.trans hx.symm)
        rw [List.length_map] at ley
        have lo : LeastOf us rs x (leastM ys) := ⟨ys, so, ndy, memy, ley, rfl⟩
        have eg : dN (us.take i) (fun x => V.ref (g x)) = dN (us.take i) (fun y => V.ref (if y = x then Lx else g y)) := by
          unfold dN
          refine List.map_congr_left fun y hy => ?_
          have ne : ¬ y = x := fun q => nx (by rw [← q]; exact hy)
          dsimp only
          rw [if_neg ne]
        refine ⟨_, .inr x, rfl, s35 _ _ hD, small1000 (by rw [dN_len, List.length_take]; omega), ⟨fun y => if y = x then Lx else g y, ?_, fun y hy => ?_⟩, fun b o e => ?_⟩
        · refine upd_same.trans (congrArg (fun z => some (HO.dK z)) ?_)
          have ev : V.ref Lx = (fun y => V.ref (if y = x then Lx else g y)) x := by
            dsimp only
            rw [if_pos rfl]
          rw [eg, ev, dN_put nx, List.take_succ, ex]
          rfl
        · rw [List.take_succ, ex] at hy
          dsimp only
          by_cases e : y = x
          · subst e
            refine ⟨by rw [if_pos rfl]; exact nLD, leastM ys, lo, ?_⟩
            rw [if_pos rfl, upd_ne nLD]
            exact hL
          · have hy2 : y ∈ us.take i := by
              rcases List.mem_append.mp hy with q | q
              · exact q
              · exact absurd (List.mem_singleton.mp q) e
            obtain ⟨n1, zs, z1, z2⟩ := hg y hy2
            refine ⟨by rw [if_neg e]; exact n1, zs, z1, ?_⟩
            rw [if_neg e, upd_ne n1]
            exact s35 _ _ z2
        · rw [upd_ne (ne_of_none e nD)]
          exact s35 _ _ (s3 _ _ e)
    · have e0 : i = us.length := by omega
      subst e0
      rw [List.take_length] at hD hg
      exact .inl ⟨⟨_, I s3, by rw [List.length_map]; exact Nat.le_refl _⟩, k D H3 (s12.trans s3) (s12.free nD) ⟨g, hD, fun x hx => (hg x hx).2⟩⟩
abbrev sLA : Stmt := top 42
theorem scLA : FnScope ["panel"] ["panel"] (defScope sLA) := ⟨rfl, rfl, rfl, by decide +kernel, rfl, by decide +kernel, by decide +kernel⟩
theorem ok_lA {f : Addr} {fd : FuncData} (F : FnP K "least_ahead" sLA f fd) (DA : Df P w K mg base 2 "ahead_masks" sAMs ["panel"] (spAMs C)) (DB : Df P w K mg base 3 "least_by" sLBy ["stewards"] spLBy) : FnOk P w K mg base CX0 4 f fd ["panel"] (spLA C) := by
  refine okN F scLA (fun vs H Q E h => ?_) (fun cdv A outer s H vs Q E hr h => ?_)
  · obtain ⟨_, _, _, rfl, _⟩ := h
    rfl
  · obtain ⟨a, xs, rs, rfl, pan, g0, k⟩ := h
    have r2 : Room 2 (A.deeper (envOfC "least_ahead" (defScope sLA) s.heap.objs.size f cdv)) := hr.mono (by decide)
    refine ⟨_, pss_one (ps_ret (pe_df DB hr (by rfl) (pa_cons (pe_df DA r2 (by rfl) (pa_cons (pv 0) pa_nil)) pa_nil))), ?_⟩
    refine ⟨_, rfl, a, xs, rs, rfl, pan, g0, fun SD ds H1 s1 nSD hSD hds _ => ?_⟩
    exact ⟨SD, ds, xs, rs, rfl, hSD, hds, g0, fun D H2 s2 nD fam => k D H2 (s1.trans s2) (s1.free nD) fam⟩
end
end G14

set_option maxHeartbeats 8000000
namespace G14
open PySem PySem.Spec PyProof.Rows L2 G1
theorem inB_iff {n m : Nat} : inB n m = true ↔ n &&& m = n := by
  unfold inB
  have le : n &&& m ≤ n := Nat.and_le_left
  rw [beq_iff_eq]
  omega
theorem inB_trans {a b c : Nat} (h1 : inB a b = true) (h2 : inB b c = true) : inB a c = true := by
  rw [inB_iff] at h1 h2 ⊢
  calc a &&& c = (a &&& b) &&& c := by rw [h1]
    _ = a &&& (b &&& c) := Nat.and_assoc _ _ _
    _ = a &&& b := by rw [h2]
    _ = a := h1
theorem holdB_step {m y : Nat} {acc : List Nat} : holdB m (leastS acc y) = (holdB m acc || inB y m) := by
  unfold leastS
  cases e : holdB y acc with
  | true =>
    rw [if_pos rfl]
    cases e2 : inB y m with
    | false => rw [Bool.or_false]
    | true =>
      obtain ⟨n, hn, h1⟩ := List.any_eq_true.mp e
      have : holdB m acc = true := List.any_eq_true.mpr ⟨n, hn, inB_trans h1 e2⟩
      rw [this]
      rfl
  | false =>
    rw [if_neg Bool.false_ne_true]
    unfold holdB
    rw [List.any_append]
    simp
theorem holdB_fold {m : Nat} : ∀ {ys acc : List Nat}, holdB m (ys.foldl leastS acc) = (holdB m acc || ys.any fun n => inB n m)
  | [], acc => by simp
  | y :: ys, acc => by
    show holdB m (ys.foldl leastS (leastS acc y)) = _
    rw [holdB_fold, holdB_step, List.any_cons, Bool.or_assoc]
theorem holdB_least {m : Nat} {ys : List Nat} : holdB m (leastM ys) = ys.any fun n => inB n m := by
  unfold leastM
  rw [holdB_fold]
  rfl
/-- some row of ts has no one ahead of z but who is ahead of z in r -/
def okB (xs : List Str) (ts : List (List Str)) (r : List Str) (z : Str) : Bool := ts.any fun t => inB (aheadM xs t z) (aheadM xs r z)
theorem least_ok {xs : List Str} {ts : List (List Str)} {z : Str} {zs : List Nat} (h : LeastOf xs ts z zs) (r : List Str) : holdB (aheadM xs r z) zs = okB xs ts r z := by
  obtain ⟨ys, _, _, mem, _, rfl⟩ := h
  rw [holdB_least]
  unfold okB
  refine Bool.eq_iff_iff.mpr ⟨fun q => ?_, fun q => ?_⟩
  · obtain ⟨n, hn, h1⟩ := List.any_eq_true.mp q
    obtain ⟨t, ht, rfl⟩ := List.mem_map.mp ((mem n).mp hn)
    exact List.any_eq_true.mpr ⟨t, ht, h1⟩
  · obtain ⟨t, ht, h1⟩ := List.any_eq_true.mp q
    exact List.any_eq_true.mpr ⟨_, (mem _).mpr (List.mem_map.mpr ⟨t, ht, rfl⟩), h1⟩
/-- the same in words of names -/
theorem inB_names {xs t r : List Str} {z : Str} (sub : ∀ y ∈ t, y ∈ xs) : inB (aheadM xs t z) (aheadM xs r z) = (t.take (t.idxOf z)).all fun y => decide (y ∈ r.take (r.idxOf z)) := by
  have h : inB (aheadM xs t z) (aheadM xs r z) = true ↔ ∀ x ∈ xs, decide (x ∈ t.take (t.idxOf z)) = true → decide (x ∈ r.take (r.idxOf z)) = true := by
    unfold inB aheadM
    rw [beq_iff_eq]
    exact msk_sub
  refine Bool.eq_iff_iff.mpr ⟨fun q => ?_, fun q => ?_⟩
  · exact List.all_eq_true.mpr fun y hy => h.mp q y (sub y (List.mem_of_mem_take hy)) (decide_eq_true hy)
  · exact h.mpr fun x _ hx => List.all_eq_true.mp q x (of_decide_eq_true hx)
def spChkPs (C : Addr) : Sp := fun vs H Q _ => ∃ (a b : Addr) (xs : List Str) (rs ts : List (List Str)), vs = [.ref a, .ref b] ∧ PanF H C a xs rs ∧ PanF H C b xs ts ∧ ∀ H', Same H H' → Q .non H'
section
variable {P : Program} {w : World} {K : PySem.W.Frag} {mg : Str → Option Value} {base : Heap} {C : Addr}
abbrev sChkPs : Stmt := top 34
theorem scChkPs : FnScope ["one", "other"] ["one", "other"] (defScope sChkPs) := ⟨rfl, rfl, rfl, by decide +kernel, rfl, by decide +kernel, by decide +kernel⟩
theorem ok_chkPs {f : Addr} {fd : FuncData} (F : FnP K "check_panels" sChkPs f fd) (N : PanP P w K mg base C) (DP : Df P w K mg base 1 "check_panel" sChkP ["panel"] (spChkP C)) : FnOk P w K mg base CX0 2 f fd ["one", "other"] (spChkPs C) := by
  refine okN F scChkPs (fun vs H Q E h => ?_) (fun cdv A outer s H vs Q E hr h => ?_)
  · obtain ⟨_, _, _, _, _, rfl, _⟩ := h
    rfl
  · obtain ⟨a, b, xs, rs, ts, rfl, pa, pb, k⟩ := h
    obtain ⟨dx, gs, fr1, fr2, fr3, fr4⟩ := id pa.fre
    obtain ⟨dy, gy, fy1, fy2, fy3, fy4⟩ := id pb.fre
    have hun := hr.un
    have hu1 : (A.deeper (envOfC "check_panels" (defScope sChkPs) s.heap.objs.size f cdv)).units + (0 + 1) < cLine := by omega
    refine ⟨_, pss_cons (ps_expr (pe_df DP hr (by rfl) (pa_cons (pv 0) pa_nil))) (pss_cons (ps_expr (pe_df DP hr (by rfl) (pa_cons (pv 1) pa_nil)))
      (pss_one (ps_if (pt_cmpR (op_neW (n := 0) hu1) (pe_mt (pv 0) N.cls N.en hr) (pe_mt (pv 1) N.cls N.en hr) (nomark _)) (pss_one ps_never) pss_nil))), ?_⟩
    refine ⟨_, rfl, a, dx, gs, rfl, fr1, _, rfl, b, dy, gy, rfl, fy1, ?_⟩
    refine ⟨_, rfl, a, dx, gs, rfl, fr1, fr2, a, xs, rs, rfl, pa.at_, fun D1 H1 s1 nD1 hD1 => ?_⟩
    refine ⟨_, rfl, b, dy, gy, rfl, s1 _ _ fy1, fy2, b, xs, ts, rfl, pb.at_.same s1, fun D2 H2 s2 nD2 hD2 => ?_⟩
    refine ⟨_, lists_strs (SqL.of (s2 _ _ hD1)) (SqL.of hD2), ?_⟩
    rw [decide_eq_true rfl]
    exact ⟨_, rfl, iteF (k H2 (s1.trans s2))⟩
end
end G14

set_option maxHeartbeats 8000000
namespace G14
open PySem PySem.Spec PyProof.Rows L2 G1
def spBad (C : Addr) : Sp := fun vs H Q _ => ∃ (a b : Addr) (xs : List Str) (rs ts : List (List Str)), vs = [.ref a, .ref b] ∧ PanF H C a xs rs ∧ PanF H C b xs ts ∧ Rw xs rs ∧ Rw xs ts ∧
  (∀ H', Same H H' → (∀ r ∈ rs, ∀ z ∈ r, okB xs ts r z = true) → Q .non H') ∧
  ∀ (i j : Nat) (r : List Str) (z : Str) (T : Addr) (H' : Hp), Same H H' → rs[i]? = some r → r[j]? = some z → okB xs ts r z = false → (∀ y ∈ r.take j, okB xs ts r y = true) → (∀ q ∈ rs.take i, ∀ y ∈ q, okB xs ts q y = true) → H T = none → H' T = some (.tup [.int (i : Int), .str z]) → Q (.ref T) H'
section
variable {P : Program} {w : World} {K : PySem.W.Frag} {mg : Str → Option Value} {base : Heap} {C : Addr}
abbrev sBad : Stmt := top 54
abbrev nBad : List Str := ["one", "other", "theirs", "at", "masks", "name", "mask"]
theorem scBad : FnScope nBad ["one", "other"] (defScope sBad) := ⟨rfl, rfl, rfl, by decide +kernel, rfl, by decide +kernel, by decide +kernel⟩
theorem ok_bad {f : Addr} {fd : FuncData} (F : FnP K "bad_row" sBad f fd) (le : mg "enumerate" = none) (DC : Df P w K mg base 2 "check_panels" sChkPs ["one", "other"] (spChkPs C)) (DL : Df P w K mg base 4 "least_ahead" sLA ["panel"] (spLA C)) (DA : Df P w K mg base 2 "ahead_masks" sAMs ["panel"] (spAMs C))
    (DH : Df P w K mg base 1 "holds_one" sHolds ["mask", "masks"] (spHolds K)) : FnOk P w K mg base CX0 5 f fd ["one", "other"] (spBad C) := by
  refine okN F scBad (fun vs H Q E h => ?_) (fun cdv A outer s H vs Q E hr h => ?_)
  · obtain ⟨_, _, _, _, _, rfl, _⟩ := h
    rfl
  · obtain ⟨a, b, xs, rs, ts, rfl, pa, pb, ra, rb, k1, k2⟩ := h
    have hun := hr.un
    have nd := scBad.nd
    have hu1 : (A.deeper (envOfC "bad_row" (defScope sBad) s.heap.objs.size f cdv)).units + 1 < cLine := by omega
    have r1 : Room 1 (A.deeper (envOfC "bad_row" (defScope sBad) s.heap.objs.size f cdv)) := hr.mono (by decide)
    have r2 : Room 2 (A.deeper (envOfC "bad_row" (defScope sBad) s.heap.objs.size f cdv)) := hr.mono (by decide)
    refine ⟨_, pss_cons (ps_expr (pe_df DC r2 (by rfl) (pa_cons (pv 0) (pa_cons (pv 1) pa_nil))))
      (pss_cons (ps_set (i := 2) nd rfl (Or.inl rfl) (pe_df DL hr (by rfl) (pa_cons (pv 1) pa_nil)))
      (pss_cons (ps_for PassesOwn.never rfl (pi_enum (by rfl) le (pa_cons (pe_df DA r2 (by rfl) (pa_cons (pv 0) pa_nil)) pa_nil)) (pg_tup (n := 2) (by rfl) (pgs_cons (pg_name (i := 3) nd rfl (Or.inl rfl)) (pgs_cons (pg_name (i := 4) nd rfl (Or.inl rfl)) pgs_nil)))
        (pss_one (ps_lock (ps_for PassesOwn.never rfl (pi_items (pv 4)) (pg_tup (n := 2) (by rfl) (pgs_cons (pg_name (i := 5) nd rfl (Or.inl rfl)) (pgs_cons (pg_name (i := 6) nd rfl (Or.inl rfl)) pgs_nil)))
          (pss_one (ps_if (pt_not (pt_val (pe_df DH r1 (by rfl) (pa_cons (pv 6) (pa_cons (pe_dget hu1 (pv 2) (pv 5) (fun _ _ => rfl)) pa_nil))))) (pss_one (ps_ret (pe_tup (pa_cons (pv 3) (pa_cons (pv 5) pa_nil))))) pss_nil))))))
      (pss_one (ps_ret pe_non)))), ?_⟩
    refine ⟨_, rfl, _, rfl, a, b, xs, rs, ts, rfl, pa, pb, fun H1 s1 => ?_⟩
    refine ⟨_, rfl, b, xs, ts, rfl, pb.same s1, rb, fun D H2 s2 nD fam => ?_⟩
    have s12 := s1.trans s2
    obtain ⟨g, hD, hg⟩ := fam
    refine ⟨_, rfl, a, xs, rs, rfl, pa.same s12, ra, fun Ld ds H3 s3 nLd hLd hds nds => ?_⟩
    have s13 := s12.trans s3
    refine ⟨Ld, ds.map V.ref, rfl, SqL.of hLd, for_it (walk_enum (K := K) (a := Ld) (xs := ds.map V.ref)) (fun i σ H' => ∃ o3 o4 o5 o6 : Option V, σ = [some (.ref a), some (.ref b), some (.ref D), o3, o4, o5, o6] ∧ Same H3 H' ∧ ∀ q ∈ rs.take i, ∀ y ∈ q, okB xs ts q y = true)
      ⟨none, none, none, none, rfl, Same.refl _, fun q hq => nomatch hq⟩ (fun i σ H' _ h => by obtain ⟨_, _, _, _, _, h, _⟩ := h; exact SqL.of (h _ _ hLd)) ?_ ?_⟩
    · rintro i x σ H4 H5 hi ⟨o3, o4, o5, o6, rfl, g4, old⟩ ⟨T, u, v, rfl, nT, rfl, eu, ev⟩
      obtain rfl := Option.some.inj eu
      dsimp only at ev
      rw [List.getElem?_map] at ev
      obtain ⟨d, hd, rfl⟩ := Option.map_eq_some_iff.mp ev
      obtain ⟨r, o, hr1, hr2, rfl⟩ := hds.at hd
      have hdm := List.mem_of_getElem? hd
      have nd2 := (nds d hdm).1
      have rp := ra.pr r (List.mem_of_getElem? hr1)
      have g5 := g4.trans (sn nT (o := .tup [.int (i : Nat), .ref d]))
      have hT := upd_same (a := T) (o := HO.tup [.int (i : Nat), V.ref d]) (H := H4)
      generalize upd H4 T (.tup [.int (i : Nat), .ref d]) = H5 at g5 hT ⊢
      refine ⟨T, _, rfl, SqT.of hT, rfl, _, _, rfl, _, _, rfl, rfl, d, .dK (dN r (aheadV xs r)), g5 _ _ hr2, trivial, fun od => ?_⟩
      have keep : ∀ (c : Addr) (o : HO), c ≠ d → H3 c = some o → upd H5 d (.frz od (.dK (dN r (aheadV xs r)))) c = some o := fun c o n e => by rw [upd_ne n]; exact g5 _ _ e
      have fz : upd H5 d (.frz od (.dK (dN r (aheadV xs r)))) d = some (.frz od (.dK (dN r (aheadV xs r)))) := upd_same
      generalize upd H5 d (.frz od (.dK (dN r (aheadV xs r)))) = H6 at keep fz ⊢
      have back : ∀ {H' : Hp} {o : HO}, (∀ (c : Addr) (o : HO), c ≠ d → H3 c = some o → H' c = some o) → H' d = some (.frz od (.dK (dN r (aheadV xs r)))) → Same H3 (upd H' d (.dK (dN r (aheadV xs r)))) := fun {H'} {o} kp _ c o e => by
        by_cases q : c = d
        · subst q
          rw [upd_same]
          rw [hr2] at e
          exact e
        · rw [upd_ne q]
          exact kp c o q e
      refine ⟨_, rfl, d, od, dN r (aheadV xs r), rfl, fz, for_it (walk_items (d := d) (o := od) (kvs := dN r (aheadV xs r))) (fun j σ H' => ∃ o5 o6 : Option V, σ = [some (.ref a), some (.ref b), some (.ref D), some (.int (i : Nat)), some (.ref d), o5, o6] ∧ H' d = some (.frz od (.dK (dN r (aheadV xs r)))) ∧ (∀ (c : Addr) (o : HO), c ≠ d → H3 c = some o → H' c = some o) ∧ ∀ y ∈ r.take j, okB xs ts r y = true)
        ⟨o5, o6, rfl, fz, keep, fun y hy => nomatch hy⟩ (fun j σ H' _ h => by obtain ⟨_, _, _, h, _⟩ := h; exact h) ?_ ?_⟩
      · rintro j x2 σ H7 H8 hj ⟨o5, o6, rfl, f7, k7, old2⟩ ⟨T2, u2, v2, rfl, nT2, rfl, eu2, ev2⟩
        dsimp only at eu2 ev2
        unfold dN at eu2 ev2
        rw [List.getElem?_map] at eu2 ev2
        have lj : j < r.length := by rw [dN_len] at hj; exact hj
        have ez : r[j]? = some r[j] := List.getElem?_eq_getElem lj
        rw [ez] at eu2 ev2
        obtain rfl : V.str r[j] = u2 := Option.some.inj eu2
        obtain rfl : aheadV xs r r[j] = v2 := Option.some.inj ev2
        generalize hz : r[j] = z at ez ⊢
        have zr := List.mem_of_getElem? ez
        have zx : z ∈ xs := rp.mem_iff.mp zr
        have hT2 := upd_same (a := T2) (o := HO.tup [V.str z, aheadV xs r z]) (H := H7)
        have s8 := sn nT2 (o := .tup [V.str z, aheadV xs r z])
        generalize upd H7 T2 (.tup [V.str z, aheadV xs r z]) = H8 at s8 hT2 ⊢
        have f8 := s8 _ _ f7
        have k8 : ∀ (c : Addr) (o : HO), c ≠ d → H3 c = some o → H8 c = some o := fun c o n e => s8 _ _ (k7 c o n e)
        have oldD : ∀ {c : Addr} {o : HO}, H2 c = some o → H8 c = some o := fun {c o} e => k8 c o (ne_of_none e nd2) (s3 _ _ e)
        obtain ⟨zs, lz, hz2⟩ := hg z zx
        refine ⟨T2, _, rfl, SqT.of hT2, rfl, _, _, rfl, _, _, rfl, rfl, _, rfl, _, rfl, _, rfl, D, _, rfl, dN_get (oldD hD) zx, aheadM xs r z, g z, zs, rfl, oldD hz2, ?_, fun H9 s9 => ⟨_, rfl, ?_⟩⟩
        · obtain ⟨ys, _, _, _, ly, rfl⟩ := lz
          have h1 := leastM_len ys []
          have h2 := rb.l60
          rw [List.length_nil] at h1
          show (ys.foldl leastS []).length ≤ 900
          omega
        have f9 := s9 _ _ f8
        have k9 : ∀ (c : Addr) (o : HO), c ≠ d → H3 c = some o → H9 c = some o := fun c o n e => s9 _ _ (k8 c o n e)
        rw [least_ok lz r]
        cases e : okB xs ts r z with
        | true =>
          refine iteF ⟨_, _, rfl, f9, k9, fun y hy => ?_⟩
          rw [List.take_succ, ez] at hy
          rcases List.mem_append.mp hy with q | q
          · exact old2 y q
          · rw [List.mem_singleton.mp q]
            exact e
        | false =>
          refine iteT ⟨_, rfl, _, rfl, (show 2 ≤ sizeLine by decide), fun TT nTT => ⟨(sn nTT) _ _ f9, ?_⟩⟩
          have s10 := sn nTT (o := .tup [.int (i : Nat), .str z])
          have kk := back (o := .dK []) (H' := upd H9 TT (.tup [.int (i : Nat), .str z])) (fun c o n e => s10 _ _ (k9 c o n e)) (s10 _ _ f9)
          have nTd : TT ≠ d := Ne.symm (ne_of_none f9 nTT)
          have nT3 : H3 TT = none := by
            cases q : H3 TT with
            | none => rfl
            | some o =>
              have := k9 TT o nTd q
              rw [nTT] at this
              cases this
          exact k2 i j r z TT _ (s13.trans kk) hr1 ez e old2 old (s13.free nT3) (by rw [upd_ne nTd]; exact upd_same)
      · rintro σ H7 ⟨o5, o6, rfl, f7, k7, old2⟩
        rw [dN_len, List.take_length] at old2
        refine ⟨f7, _, _, _, _, rfl, back (o := .dK []) k7 f7, fun q hq y hy => ?_⟩
        rw [List.take_succ, hr1] at hq
        rcases List.mem_append.mp hq with h | h
        · exact old q h y hy
        · rw [List.mem_singleton.mp h] at hy ⊢
          exact old2 y hy
    · rintro σ H4 ⟨o3, o4, o5, o6, rfl, g4, old⟩
      rw [List.length_map, hds.len, List.take_length] at old
      exact k1 H4 (s13.trans g4) old
end
end G14

set_option maxHeartbeats 8000000
namespace G14
open PySem PySem.Spec PyProof.Rows L2 G1
theorem holdB_mono {m n : Nat} {zs : List Nat} (h : inB m n = true) (q : holdB m zs = true) : holdB n zs = true := by
  obtain ⟨z, hz, e⟩ := List.any_eq_true.mp q
  exact List.any_eq_true.mpr ⟨z, hz, inB_trans e h⟩
theorem leastS_sub {acc : List Nat} {y m : Nat} (h : m ∈ leastS acc y) : m ∈ acc ∨ m = y := by
  unfold leastS at h
  split at h
  · exact .inl h
  · rcases List.mem_append.mp h with q | q
    · exact .inl q
    · exact .inr (List.mem_singleton.mp q)
theorem fold_sub : ∀ {ys acc : List Nat} {m : Nat}, m ∈ ys.foldl leastS acc → m ∈ acc ∨ m ∈ ys
  | [], _, _, h => .inl h
  | y :: ys, acc, m, h => by
    rcases fold_sub (ys := ys) h with q | q
    · rcases leastS_sub q with q | q
      · exact .inl q
      · exact .inr (q ▸ List.mem_cons_self)
    · exact .inr (List.mem_cons_of_mem _ q)
/-- all of the least masks are held just when all masks are -/
theorem least_all {ys zs : List Nat} : ((leastM ys).all fun m => holdB m zs) = ys.all fun m => holdB m zs := by
  refine Bool.eq_iff_iff.mpr ⟨fun h => ?_, fun h => ?_⟩
  · refine List.all_eq_true.mpr fun y hy => ?_
    have q : holdB y (leastM ys) = true := by
      rw [holdB_least]
      exact List.any_eq_true.mpr ⟨y, hy, by rw [inB_iff, Nat.and_self]⟩
    obtain ⟨l, hl, e⟩ := List.any_eq_true.mp q
    exact holdB_mono e (List.all_eq_true.mp h l hl)
  · refine List.all_eq_true.mpr fun m hm => List.all_eq_true.mp h m ?_
    rcases fold_sub hm with q | q
    · cases q
    · exact q
theorem ours_ok {xs : List Str} {rs ts : List (List Str)} {z : Str} {os zs : List Nat} (h1 : LeastOf xs rs z os) (h2 : LeastOf xs ts z zs) : (os.all fun m => holdB m zs) = rs.all fun r => okB xs ts r z := by
  obtain ⟨ys, _, _, mem, _, rfl⟩ := h1
  rw [least_all]
  refine Bool.eq_iff_iff.mpr ⟨fun h => ?_, fun h => ?_⟩
  · refine List.all_eq_true.mpr fun r hr => ?_
    rw [← least_ok h2 r]
    exact List.all_eq_true.mp h _ ((mem _).mpr (List.mem_map.mpr ⟨r, hr, rfl⟩))
  · refine List.all_eq_true.mpr fun m hm => ?_
    obtain ⟨r, hr, rfl⟩ := List.mem_map.mp ((mem m).mp hm)
    rw [least_ok h2 r]
    exact List.all_eq_true.mp h r hr
def withinB (xs : List Str) (rs ts : List (List Str)) : Bool := rs.all fun r => r.all fun z => okB xs ts r z
def spWithin (C : Addr) : Sp := fun vs H Q _ => ∃ (a b : Addr) (xs : List Str) (rs ts : List (List Str)), vs = [.ref a, .ref b] ∧ PanF H C a xs rs ∧ PanF H C b xs ts ∧ Rw xs rs ∧ Rw xs ts ∧ ∀ H', Same H H' → Q (.bl (withinB xs rs ts)) H'
section
variable {P : Program} {w : World} {K : PySem.W.Frag} {mg : Str → Option Value} {base : Heap} {C : Addr}
abbrev sWithin : Stmt := top 51
theorem scWithin : FnScope ["one", "other"] ["one", "other"] (defScope sWithin) := ⟨rfl, rfl, rfl, by decide +kernel, rfl, by decide +kernel, by decide +kernel⟩
theorem ok_within {f : Addr} {fd : FuncData} (F : FnP K "within" sWithin f fd) (DB : Df P w K mg base 5 "bad_row" sBad ["one", "other"] (spBad C)) : FnOk P w K mg base CX0 6 f fd ["one", "other"] (spWithin C) := by
  refine okN F scWithin (fun vs H Q E h => ?_) (fun cdv A outer s H vs Q E hr h => ?_)
  · obtain ⟨_, _, _, _, _, rfl, _⟩ := h
    rfl
  · obtain ⟨a, b, xs, rs, ts, rfl, pa, pb, ra, rb, k⟩ := h
    refine ⟨_, pss_one (ps_ret (pe_cmpR op_isN (pe_df DB hr (by rfl) (pa_cons (pv 0) (pa_cons (pv 1) pa_nil))) pe_non (nomark _))), ?_⟩
    refine ⟨_, rfl, _, rfl, a, b, xs, rs, ts, rfl, pa, pb, ra, rb, fun H1 s1 ok => ⟨rfl, ?_⟩, fun i j r z T H1 s1 hr1 hz e _ _ _ _ => ⟨rfl, ?_⟩⟩
    · have q : withinB xs rs ts = true := List.all_eq_true.mpr fun r hr => List.all_eq_true.mpr fun z hz => ok r hr z hz
      rw [decide_eq_true rfl, ← q]
      exact k H1 s1
    · have q : withinB xs rs ts = false := by
        cases h : withinB xs rs ts with
        | false => rfl
        | true =>
          have := List.all_eq_true.mp (List.all_eq_true.mp h r (List.mem_of_getElem? hr1)) z (List.mem_of_getElem? hz)
          rw [e] at this
          cases this
      rw [decide_eq_false (fun q => nomatch q), ← q]
      exact k H1 s1
end
end G14

set_option maxHeartbeats 8000000
namespace G14
open PySem PySem.Spec PyProof.Rows L2 G1
def beyondL (xs : List Str) (rs ts : List (List Str)) : List Str := xs.filter fun z => !(rs.all fun r => okB xs ts r z)
def spBeyond (C : Addr) : Sp := fun vs H Q _ => ∃ (a b : Addr) (xs : List Str) (rs ts : List (List Str)), vs = [.ref a, .ref b] ∧ PanF H C a xs rs ∧ PanF H C b xs ts ∧ Rw xs rs ∧ Rw xs ts ∧
  ∀ (D : Addr) (H' : Hp), Same H H' → H D = none → H' D = some (.lst ((beyondL xs rs ts).map V.str)) → Q (.ref D) H'
def scBeyIn : Scope := { kind := .function, names := [(Str.ofString ".0", .local), (Str.ofString "name", .cell), (Str.ofString "all", .globalImplicit), (Str.ofString "ours", .cell), (Str.ofString "theirs", .cell)], isGenerator := false, isCoroutine := false }
section
variable {P : Program} {w : World} {K : PySem.W.Frag} {mg : Str → Option Value} {base : Heap} {C : Addr}
abbrev sBeyond : Stmt := top 53
abbrev nBeyond : List Str := ["one", "other", "ours", "theirs", "name", "mask"]
theorem scBeyond : FnScope nBeyond ["one", "other"] (defScope sBeyond) := ⟨rfl, rfl, rfl, by decide +kernel, rfl, by decide +kernel, by decide +kernel⟩
theorem ok_beyond {f : Addr} {fd : FuncData} (F : FnP K "beyond" sBeyond f fd) (LP : LibP mg) (DC : Df P w K mg base 2 "check_panels" sChkPs ["one", "other"] (spChkPs C)) (DL : Df P w K mg base 4 "least_ahead" sLA ["panel"] (spLA C))
    (DH : Df P w K mg base 1 "holds_one" sHolds ["mask", "masks"] (spHolds K)) : FnOk P w K mg base CX0 5 f fd ["one", "other"] (spBeyond C) := by
  refine okN F scBeyond (fun vs H Q E h => ?_) (fun cdv A outer s H vs Q E hr h => ?_)
  · obtain ⟨_, _, _, _, _, rfl, _⟩ := h
    rfl
  · obtain ⟨a, b, xs, rs, ts, rfl, pa, pb, ra, rb, k⟩ := h
    have hun := hr.un
    have nd := scBeyond.nd
    have hu1 : (A.deeper (envOfC "beyond" (defScope sBeyond) s.heap.objs.size f cdv)).units + 1 < cLine := by omega
    have r1 : Room 1 (A.deeper (envOfC "beyond" (defScope sBeyond) s.heap.objs.size f cdv)) := hr.mono (by decide)
    have r2 : Room 2 (A.deeper (envOfC "beyond" (defScope sBeyond) s.heap.objs.size f cdv)) := hr.mono (by decide)
    refine ⟨_, pss_cons (ps_expr (pe_df DC r2 (by rfl) (pa_cons (pv 0) (pa_cons (pv 1) pa_nil))))
      (pss_cons (ps_asg (pe_tup (pa_cons (pe_df DL hr (by rfl) (pa_cons (pv 0) pa_nil)) (pa_cons (pe_df DL hr (by rfl) (pa_cons (pv 1) pa_nil)) pa_nil)))
          (pg_tup (n := 2) (by rfl) (pgs_cons (pg_name (i := 2) nd rfl (Or.inr rfl)) (pgs_cons (pg_name (i := 3) nd rfl (Or.inr rfl)) pgs_nil))))
      (pss_one (ps_ret (pe_lock (pe_lc (own := [("name", 4)]) (g := gName 4)
        (tt := tNot (tB (tCB (rAll K) (tCons (tLc (iList K (tDGet (tVar 2) (tVar 4))) (gName 5) tYes (tCall (spHolds K) [] E0 (tCons (tVar 5) (tCons (tDGet (tVar 3) (tVar 4)) tNil))) [5]) tNil)))) (te := tVar 4) rfl nd (pi_keys (pv 2))
        (blkOk_by (N := nBeyond) (sc := defScope sBeyond) (by decide +kernel)) (fun _ _ _ _ _ => pg_name (i := 4) scBeyond.nd rfl (Or.inr rfl))
        (fun _ _ _ _ _ => pts_one (pt_not (pt_val (pe_callB (cr_all rfl) (by rfl) LP.all (by decide +kernel) (pa_cons
          (pe_lc (own := [("mask", 5)]) (g := gName 5) (tt := tYes) (te := tCall (spHolds K) [] E0 (tCons (tVar 5) (tCons (tDGet (tVar 3) (tVar 4)) tNil))) (by rfl) scBeyond.nd (pi_list (pe_dget hu1 (pv 2) (pv 4) (fun _ _ => rfl)))
            (blkOk_by (N := nBeyond) (sc := scBeyIn) (by decide +kernel)) (fun _ _ _ _ _ => pg_name (i := 5) scBeyond.nd rfl (Or.inl rfl)) (fun _ _ _ _ _ => pts_nil)
            (fun _ _ _ _ _ => pe_df DH r1 (by rfl) (pa_cons (pv 5) (pa_cons (pe_dget hu1 (pv 3) (pv 4) (fun _ _ => rfl)) pa_nil)))) pa_nil))))) (fun _ _ _ _ _ => pv 4)))))), ?_⟩
    refine ⟨_, rfl, _, rfl, a, b, xs, rs, ts, rfl, pa, pb, fun H1 s1 => ?_⟩
    refine ⟨_, rfl, a, xs, rs, rfl, pa.same s1, ra, fun D1 H2 s2 nD1 fam1 => ?_⟩
    have s12 := s1.trans s2
    refine ⟨_, rfl, b, xs, ts, rfl, pb.same s12, rb, fun D2 H3 s3 nD2 fam2 => ?_⟩
    have s13 := s12.trans s3
    obtain ⟨g1, hD1, hg1⟩ := fam1.same s3
    obtain ⟨g2, hD2, hg2⟩ := fam2
    refine ⟨(show 2 ≤ sizeLine by decide), fun T nT => ⟨T, _, rfl, SqT.of upd_same, rfl, _, _, rfl, _, _, rfl, rfl, ?_⟩⟩
    have sT := sn nT (o := .tup [.ref D1, .ref D2])
    have z4 := s13.trans sT
    have h1 := sT _ _ hD1
    have h2 := sT _ _ hD2
    have w1 : ∀ x ∈ xs, ∃ zs, LeastOf xs rs x zs ∧ upd H3 T (.tup [.ref D1, .ref D2]) (g1 x) = some (.lst (mskV zs)) := fun x hx => by
      obtain ⟨zs, q1, q2⟩ := hg1 x hx
      exact ⟨zs, q1, sT _ _ q2⟩
    have w2 : ∀ x ∈ xs, ∃ zs, LeastOf xs ts x zs ∧ upd H3 T (.tup [.ref D1, .ref D2]) (g2 x) = some (.lst (mskV zs)) := fun x hx => by
      obtain ⟨zs, q1, q2⟩ := hg2 x hx
      exact ⟨zs, q1, sT _ _ q2⟩
    have nD12 : D2 ≠ D1 := fun q => by
      have e := fam1
      obtain ⟨gx, e1, _⟩ := e
      rw [← q, nD2] at e1
      cases e1
    have nDH : H D1 = none := s1.free nD1
    generalize upd H3 T (.tup [.ref D1, .ref D2]) = H4 at z4 h1 h2 w1 w2 ⊢
    clear hD1 hD2 hg1 hg2 sT nT fam1
    refine ⟨D1, _, h1, trivial, fun od => ?_⟩
    have fz : upd H4 D1 (.frz od (.dK (dN xs fun x => .ref (g1 x)))) D1 = some (.frz od (.dK (dN xs fun x => .ref (g1 x)))) := upd_same
    have keep : ∀ (c : Addr) (o : HO), c ≠ D1 → H4 c = some o → upd H4 D1 (.frz od (.dK (dN xs fun x => .ref (g1 x)))) c = some o := fun c o n e => by rw [upd_ne n]; exact e
    have back : ∀ c : Addr, c ≠ D1 → upd H4 D1 (.frz od (.dK (dN xs fun x => .ref (g1 x)))) c = none → H4 c = none := fun c n e => by rw [upd_ne n] at e; exact e
    generalize upd H4 D1 (.frz od (.dK (dN xs fun x => .ref (g1 x)))) = H5 at fz keep back ⊢
    have l40 := ra.le
    have l60a := ra.l60
    have l60b := rb.l60
    refine ⟨_, rfl, D1, od, rfl, .inl ⟨_, fz, fun X nX => ?_⟩⟩
    have nX1 : X ≠ D1 := Ne.symm (ne_of_none fz nX)
    refine lc_it (walk_keys (d := D1) (o := od) (kvs := dN xs fun x => V.ref (g1 x))) (fun i H' => H' X = some (.lst (((xs.take i).filter fun z => !(rs.all fun r => okB xs ts r z)).map V.str)) ∧ H' D1 = some (.frz od (.dK (dN xs fun x => .ref (g1 x)))) ∧ ∀ (c : Addr) (o : HO), c ≠ D1 → H4 c = some o → H' c = some o)
      ⟨upd_same, by rw [upd_ne (Ne.symm nX1)]; exact fz, fun c o n e => by rw [upd_ne (ne_of_none (keep c o n e) nX)]; exact keep c o n e⟩ (fun i H' _ h => h.2.1) ?_ ?_
    · rintro i x H6 H7 hi ⟨q1, q2, q3⟩ ⟨rfl, kk, vv, e1, rfl⟩
      unfold dN at e1
      rw [List.getElem?_map] at e1
      obtain ⟨z, hz, e2⟩ := Option.map_eq_some_iff.mp e1
      cases e2
      have zx := List.mem_of_getElem? hz
      obtain ⟨os, o1, o2⟩ := w1 z zx
      obtain ⟨zs, p1, p2⟩ := w2 z zx
      have n1 : g1 z ≠ D1 := fun q => by rw [q, h1] at o2; cases o2
      have n2 : g2 z ≠ D1 := fun q => by rw [q, h1] at p2; cases p2
      have lzs : zs.length ≤ 900 := by
        obtain ⟨ys, _, _, _, ly, rfl⟩ := id p1
        have a1 := leastM_len ys []
        rw [List.length_nil] at a1
        show (ys.foldl leastS []).length ≤ 900
        omega
      have los : os.length ≤ 900 := by
        obtain ⟨ys, _, _, _, ly, rfl⟩ := id o1
        have a1 := leastM_len ys []
        rw [List.length_nil] at a1
        show (ys.foldl leastS []).length ≤ 900
        omega
      have dg : DGet H7 D1 (.str z) (some (V.ref (g1 z))) := .inl ⟨_, .inr z, .inr ⟨od, q2⟩, rfl, (dN_val (f := fun x => V.ref (g1 x)) zx).symm⟩
      refine ⟨rfl, _, rfl, _, rfl, D1, _, rfl, dg, g1 z, rfl, ⟨_, SqL.of (q3 _ _ n1 o2)⟩, fun M nM => lc_list (K := K) (a := g1 z) (xs := mskV os) (fun j H' => H' M = some (.lst (((os.take j).map fun m => holdB m zs).map V.bl)) ∧ Same H7 H') ⟨upd_same, sn nM⟩ (fun j H' _ h => SqL.of (h.2 _ _ (q3 _ _ n1 o2))) ?_ ?_⟩
      · rintro j y H8 hj ⟨u1, u2⟩
        unfold mskV at hj
        rw [List.getElem?_map] at hj
        obtain ⟨m, hm, rfl⟩ := Option.map_eq_some_iff.mp hj
        refine ⟨rfl, _, rfl, _, rfl, _, rfl, D2, _, rfl, dN_get (u2 _ _ (q3 _ _ nD12 h2)) zx, m, g2 z, zs, rfl, u2 _ _ (q3 _ _ n2 p2), lzs, fun H9 s9 => ⟨_, s9 _ _ u1, small1000 (by rw [List.length_map, List.length_map, List.length_take]; omega), ?_, fun b o e => ?_⟩⟩
        · rw [upd_same, List.take_succ, hm, List.map_append, List.map_append]
          rfl
        · rw [upd_ne (ne_of_none e nM)]
          exact s9 _ _ (u2 _ _ e)
      · rintro H8 ⟨u1, u2⟩
        have el : (mskV os).length = os.length := List.length_map _
        rw [el, List.take_length] at u1
        refine ⟨M, os.map fun m => holdB m zs, rfl, SqL.of u1, _, rfl, ?_⟩
        have e : (os.map fun m => holdB m zs).all id = rs.all fun r => okB xs ts r z := by
          rw [List.all_map, ← ours_ok o1 p1]
          rfl
        rw [e]
        have stp : (xs.take (i + 1)).filter (fun z => !(rs.all fun r => okB xs ts r z)) = (xs.take i).filter (fun z => !(rs.all fun r => okB xs ts r z)) ++ [z].filter (fun z => !(rs.all fun r => okB xs ts r z)) := by
          rw [List.take_succ, hz, List.filter_append]
          rfl
        cases e5 : rs.all (fun r => okB xs ts r z) with
        | true =>
          refine iteF ⟨?_, u2 _ _ q2, fun c o n eo => u2 _ _ (q3 c o n eo)⟩
          rw [stp, List.filter_cons_of_neg (by rw [e5]; decide), List.filter_nil, List.append_nil]
          exact u2 _ _ q1
        | false =>
          refine iteT ⟨_, rfl, _, u2 _ _ q1, small1000 ?_, ?_, ?_, fun c o n eo => ?_⟩
          · rw [List.length_map]
            have := List.length_filter_le (fun z => !(rs.all fun r => okB xs ts r z)) (xs.take i)
            have := List.length_take_le' i xs
            omega
          · rw [upd_same, stp, List.filter_cons_of_pos (by rw [e5]; decide), List.filter_nil, List.map_append]
            rfl
          · rw [upd_ne (Ne.symm nX1)]
            exact u2 _ _ q2
          · have := u2 _ _ (q3 c o n eo)
            by_cases qx : c = X
            · rw [qx] at eo
              rw [back X nX1 nX] at eo
              cases eo
            · rw [upd_ne qx]
              exact this
    · rintro H6 ⟨q1, q2, q3⟩
      rw [dN_len, List.take_length] at q1
      refine ⟨q2, k X _ (fun c o e => ?_) (z4.free (back X nX1 nX)) (by rw [upd_ne nX1]; exact q1)⟩
      have nc : c ≠ D1 := ne_of_none e nDH
      rw [upd_ne nc]
      exact q3 c o nc (z4 _ _ e)
end
end G14

set_option maxHeartbeats 4000000
/-! Dicts compared whose values may be lists: dict == dict, dict != dict. -/
namespace G1
open PySem PySem.Spec PyProof.Rows L2
/-- two dicts with the same keys, whatever their order, their values at most n deep -/
def Dicts2 (K : PySem.W.Frag) (H : Hp) (n : Nat) (x y : V) (b : Bool) : Prop := ∃ (a c : Addr) (ks ls : List (Key × V)) (e : Key → Bool), x = .ref a ∧ y = .ref c ∧ H a = some (.dK ks) ∧ H c = some (.dK ls) ∧ ks.length = ls.length ∧
  (∀ p ∈ ks, ∃ z, valV ls p.1 = some z ∧ EqW K H n p.2 z (e p.1)) ∧ b = ks.all fun p => e p.1
def rEqDW (K : PySem.W.Frag) (n : Nat) : R2 := fun x y H Q => ∃ b, Dicts2 K H n x y b ∧ Q (.bl b) H
def rNeDW (K : PySem.W.Frag) (n : Nat) : R2 := fun x y H Q => ∃ b, Dicts2 K H n x y b ∧ Q (.bl (!b)) H
section
variable {X : Cx} {n : Nat}
theorem hitsW {κ : Type} [DecidableEq κ] {pins : List (Addr × Obj)} {σ : L2.St} {H : Hp} {s : Shared} (I : Inv X pins σ H s) {A : Around} (hu : A.units + n < cLine) {kvs : List (κ × V)} {vb : List (κ × Value)} (rb : KV kvs vb) {e : κ → Bool} {ks : List (κ × V)} {va : List (κ × Value)} (ra : KV ks va) :
    (∀ p ∈ ks, ∃ z, valV kvs p.1 = some z ∧ EqW X.K H n p.2 z (e p.1)) → PySem.W.KeqHits A s vb va (ks.all fun p => e p.1) := by
  unfold KV at ra
  induction ra with
  | nil => intro _; exact .nil
  | @cons p q ps qs h t ih =>
    intro hp
    obtain ⟨h1, h2⟩ := h
    obtain ⟨z, ez, f⟩ := hp p List.mem_cons_self
    have rr : RelO (some z) (valueAt vb p.1) := by rw [← ez]; exact rb.val p.1
    obtain ⟨y, hy, ry⟩ := rr.some_of
    obtain ⟨k, v⟩ := q
    have h1' : p.1 = k := h1
    rw [h1'] at hy
    rw [List.all_cons]
    exact .hit hy (f.at I hu h2 ry) (ih fun p' hm => hp p' (List.mem_cons_of_mem _ hm))
theorem op_eqDW (hu : X.A.units + (n + 1) < cLine) : OpR X (compareOp .Eq) (rEqDW X.K n) := by
  intro pins s σ H x y v u Q I rx ry h
  obtain ⟨r, ⟨a, b, ks, ls, e, rfl, rfl, ea, eb, hlen, hp, rfl⟩, q⟩ := h
  obtain rfl : v = Value.ref a := rx
  obtain rfl : u = Value.ref b := ry
  obtain ⟨_, ya, va, ra, da⟩ := (show ObjOk X.prog X.w H s.heap a (.dK ks) from I.hok a _ ea)
  obtain ⟨_, yb, vb, rb, db⟩ := (show ObjOk X.prog X.w H s.heap b (.dK ls) from I.hok b _ eb)
  have hl : va.length = vb.length := by rw [← ra.length, ← rb.length]; exact hlen
  exact PySem.W.keq_eq (knd := mixKind X.prog X.w) ya yb da db (by omega) (fun _ => hitsW I (by have := units_in1 X.A; omega) rb ra hp) (fin_bl I q (by simp [hl]))
theorem op_neDW (hu : X.A.units + (n + 1) < cLine) : OpR X (compareOp .NotEq) (rNeDW X.K n) := by
  intro pins s σ H x y v u Q I rx ry h
  obtain ⟨r, ⟨a, b, ks, ls, e, rfl, rfl, ea, eb, hlen, hp, rfl⟩, q⟩ := h
  obtain rfl : v = Value.ref a := rx
  obtain rfl : u = Value.ref b := ry
  obtain ⟨_, ya, va, ra, da⟩ := (show ObjOk X.prog X.w H s.heap a (.dK ks) from I.hok a _ ea)
  obtain ⟨_, yb, vb, rb, db⟩ := (show ObjOk X.prog X.w H s.heap b (.dK ls) from I.hok b _ eb)
  have hl : va.length = vb.length := by rw [← ra.length, ← rb.length]; exact hlen
  exact PySem.W.keq_ne (knd := mixKind X.prog X.w) ya yb da db (by omega) (fun _ => hitsW I (by have := units_in1 X.A; omega) rb ra hp) (fin_bl I q (by simp [hl]))
/-- two dicts by names -/
theorem Dicts2.names {K : PySem.W.Frag} {H : Hp} {a c : Addr} {xs ys : List Str} {f g : Str → V} {e : Str → Bool} (ha : H a = some (.dK (dN xs f))) (hc : H c = some (.dK (dN ys g))) (hl : xs.length = ys.length) (hm : ∀ x ∈ xs, x ∈ ys) (he : ∀ x ∈ xs, EqW K H n (f x) (g x) (e x)) : Dicts2 K H n (.ref a) (.ref c) (xs.all e) := by
  refine ⟨a, c, _, _, fun k => match k with | .inr x => e x | .inl _ => false, rfl, rfl, ha, hc, by rw [dN_len, dN_len]; exact hl, fun p hp => ?_, ?_⟩
  · obtain ⟨x, hx, rfl⟩ := List.mem_map.mp hp
    exact ⟨_, dN_val (hm x hx), he x hx⟩
  · unfold dN
    rw [List.all_map]
    rfl
end
end G1

set_option maxHeartbeats 8000000
namespace G14
open PySem PySem.Spec PyProof.Rows L2 G1
theorem inB_le {n m : Nat} (h : inB n m = true) : n ≤ m := by
  rw [inB_iff] at h
  rw [← h]
  exact Nat.and_le_right
theorem inB_self {n : Nat} : inB n n = true := by rw [inB_iff, Nat.and_self]
/-- none of them holds another, and they ascend -/
def Anti (zs : List Nat) : Prop := zs.Pairwise (· < ·) ∧ ∀ a ∈ zs, ∀ b ∈ zs, inB a b = true → a = b
theorem fold_anti : ∀ {ys acc : List Nat}, Anti acc → ys.Pairwise (· < ·) → (∀ a ∈ acc, ∀ y ∈ ys, a < y) → Anti (ys.foldl leastS acc)
  | [], _, h, _, _ => h
  | y :: ys, acc, h, p, lt => by
    rw [List.pairwise_cons] at p
    refine fold_anti (ys := ys) ?_ p.2 ?_
    · unfold leastS
      cases e : holdB y acc with
      | true => exact h
      | false =>
        refine ⟨List.pairwise_append.mpr ⟨h.1, List.pairwise_singleton _ _, fun a ha b hb => ?_⟩, fun a ha b hb q => ?_⟩
        · rw [List.mem_singleton.mp hb]
          exact lt a ha y List.mem_cons_self
        · rcases List.mem_append.mp ha with ha | ha
          · rcases List.mem_append.mp hb with hb | hb
            · exact h.2 a ha b hb q
            · rw [List.mem_singleton.mp hb] at q
              have : holdB y acc = true := List.any_eq_true.mpr ⟨a, ha, q⟩
              rw [e] at this
              cases this
          · rcases List.mem_append.mp hb with hb | hb
            · have l1 := lt b hb y List.mem_cons_self
              have l2 := inB_le q
              rw [List.mem_singleton.mp ha] at l2
              omega
            · rw [List.mem_singleton.mp ha, List.mem_singleton.mp hb]
    · intro a ha z hz
      rcases leastS_sub ha with q | q
      · exact lt a q z (List.mem_cons_of_mem _ hz)
      · rw [q]
        exact p.1 z hz
theorem LeastOf.anti {xs : List Str} {rs : List (List Str)} {x : Str} {zs : List Nat} (h : LeastOf xs rs x zs) : Anti zs := by
  obtain ⟨ys, so, nd, _, _, rfl⟩ := h
  refine fold_anti ⟨List.Pairwise.nil, fun a ha => nomatch ha⟩ ?_ fun a ha => nomatch ha
  exact so.imp₂ (fun a b h1 h2 => Nat.lt_of_le_of_ne h1 h2) nd
theorem anti_sub {os zs : List Nat} (h1 : Anti os) (h : (os.all fun m => holdB m zs) = true) (q : (zs.all fun m => holdB m os) = true) : ∀ m ∈ os, m ∈ zs := fun m hm => by
  obtain ⟨z, hz, e1⟩ := List.any_eq_true.mp (List.all_eq_true.mp h m hm)
  obtain ⟨o, ho, e2⟩ := List.any_eq_true.mp (List.all_eq_true.mp q z hz)
  have e3 := h1.2 o ho m hm (inB_trans e2 e1)
  subst e3
  have e4 := Nat.le_antisymm (inB_le e2) (inB_le e1)
  rw [e4]
  exact hz
theorem anti_eq {os zs : List Nat} (h1 : Anti os) (h2 : Anti zs) : decide (os = zs) = ((os.all fun m => holdB m zs) && zs.all fun m => holdB m os) := by
  refine Bool.eq_iff_iff.mpr ⟨fun h => ?_, fun h => ?_⟩
  · obtain rfl := of_decide_eq_true h
    have a : (os.all fun m => holdB m os) = true := List.all_eq_true.mpr fun m hm => List.any_eq_true.mpr ⟨m, hm, inB_self⟩
    rw [a]
    rfl
  · rw [Bool.and_eq_true] at h
    refine decide_eq_true ?_
    have n1 : os.Nodup := h1.1.imp fun q => Nat.ne_of_lt q
    have n2 : zs.Nodup := h2.1.imp fun q => Nat.ne_of_lt q
    have p : os.Perm zs := (List.perm_ext_iff_of_nodup n1 n2).mpr fun m => ⟨anti_sub h1 h.1 h.2 m, anti_sub h2 h.2 h.1 m⟩
    exact p.eq_of_pairwise (fun a b _ _ q1 q2 => absurd q2 (Nat.lt_asymm q1)) h1.1 h2.1
/-- lists of masks compared -/
theorem eqW_msk {K : PySem.W.Frag} {H : Hp} {a b : Addr} {os zs : List Nat} (ha : H a = some (.lst (mskV os))) (hb : H b = some (.lst (mskV zs))) : EqW K H 1 (.ref a) (.ref b) (decide (os = zs)) := by
  by_cases e : a = b
  · subst e
    rw [ha] at hb
    have q : mskV os = mskV zs := by injection hb with hb; injection hb
    have : os = zs := by
      unfold mskV at q
      exact (List.map_inj_right fun x y h => by injection h with h; omega).mp q
    rw [decide_eq_true this]
    exact .same
  · by_cases l : os.length = zs.length
    · have q : EqW K H 1 (.ref a) (.ref b) ((List.range (mskV os).length).all fun i => decide (os[i]? = zs[i]?)) := by
        refine .lists e (SqL.of ha) (SqL.of hb) (by unfold mskV; rw [List.length_map, List.length_map]; exact l) fun i x y hx hy => ?_
        unfold mskV at hx hy
        rw [List.getElem?_map] at hx hy
        obtain ⟨m, hm, rfl⟩ := Option.map_eq_some_iff.mp hx
        obtain ⟨n, hn, rfl⟩ := Option.map_eq_some_iff.mp hy
        have : decide (os[i]? = zs[i]?) = eqV (.int (m : Int)) (.int (n : Int)) := by
          rw [hm, hn]
          show _ = ((m : Int) == (n : Int))
          refine Bool.eq_iff_iff.mpr ⟨fun h => ?_, fun h => ?_⟩
          · have := of_decide_eq_true h
            injection this with this
            rw [this]
            exact beq_self_eq_true _
          · have := eq_of_beq h
            exact decide_eq_true (by rw [show m = n by omega])
        rw [this]
        exact .flat rfl rfl
      have e2 : ((List.range (mskV os).length).all fun i => decide (os[i]? = zs[i]?)) = decide (os = zs) := by
        refine Bool.eq_iff_iff.mpr ⟨fun h => decide_eq_true (List.ext_getElem? fun i => ?_), fun h => ?_⟩
        · by_cases lt : i < os.length
          · exact of_decide_eq_true (List.all_eq_true.mp h i (List.mem_range.mpr (by unfold mskV; rw [List.length_map]; exact lt)))
          · rw [List.getElem?_eq_none (by omega), List.getElem?_eq_none (by omega)]
        · rw [of_decide_eq_true h]
          exact List.all_eq_true.mpr fun i _ => decide_eq_true rfl
      rw [← e2]
      exact q
    · rw [decide_eq_false fun q => l (by rw [q])]
      exact .lens e (SqL.of ha) (SqL.of hb) (by unfold mskV; rw [List.length_map, List.length_map]; exact l)
def alikeB (xs : List Str) (rs ts : List (List Str)) : Bool := xs.all fun z => (rs.all fun r => okB xs ts r z) && ts.all fun t => okB xs rs t z
def spAlike (C : Addr) : Sp := fun vs H Q _ => ∃ (a b : Addr) (xs : List Str) (rs ts : List (List Str)), vs = [.ref a, .ref b] ∧ PanF H C a xs rs ∧ PanF H C b xs ts ∧ Rw xs rs ∧ Rw xs ts ∧ ∀ H', Same H H' → Q (.bl (alikeB xs rs ts)) H'
section
variable {P : Program} {w : World} {K : PySem.W.Frag} {mg : Str → Option Value} {base : Heap} {C : Addr}
abbrev sAlike : Stmt := top 52
theorem scAlike : FnScope ["one", "other"] ["one", "other"] (defScope sAlike) := ⟨rfl, rfl, rfl, by decide +kernel, rfl, by decide +kernel, by decide +kernel⟩
theorem ok_alike {f : Addr} {fd : FuncData} (F : FnP K "alike" sAlike f fd) (DC : Df P w K mg base 2 "check_panels" sChkPs ["one", "other"] (spChkPs C)) (DL : Df P w K mg base 4 "least_ahead" sLA ["panel"] (spLA C)) : FnOk P w K mg base CX0 5 f fd ["one", "other"] (spAlike C) := by
  refine okN F scAlike (fun vs H Q E h => ?_) (fun cdv A outer s H vs Q E hr h => ?_)
  · obtain ⟨_, _, _, _, _, rfl, _⟩ := h
    rfl
  · obtain ⟨a, b, xs, rs, ts, rfl, pa, pb, ra, rb, k⟩ := h
    have hun := hr.un
    have hu2 : (A.deeper (envOfC "alike" (defScope sAlike) s.heap.objs.size f cdv)).units + (1 + 1) < cLine := by omega
    have r2 : Room 2 (A.deeper (envOfC "alike" (defScope sAlike) s.heap.objs.size f cdv)) := hr.mono (by decide)
    refine ⟨_, pss_cons (ps_expr (pe_df DC r2 (by rfl) (pa_cons (pv 0) (pa_cons (pv 1) pa_nil))))
      (pss_one (ps_ret (pe_cmpR (op_eqDW (n := 1) hu2) (pe_df DL hr (by rfl) (pa_cons (pv 0) pa_nil)) (pe_df DL hr (by rfl) (pa_cons (pv 1) pa_nil)) (nomark _)))), ?_⟩
    refine ⟨_, rfl, _, rfl, a, b, xs, rs, ts, rfl, pa, pb, fun H1 s1 => ?_⟩
    refine ⟨_, rfl, a, xs, rs, rfl, pa.same s1, ra, fun D1 H2 s2 nD1 fam1 => ?_⟩
    have s12 := s1.trans s2
    refine ⟨_, rfl, b, xs, ts, rfl, pb.same s12, rb, fun D2 H3 s3 nD2 fam2 => ?_⟩
    have s13 := s12.trans s3
    obtain ⟨g1, hD1, hg1⟩ := fam1.same s3
    obtain ⟨g2, hD2, hg2⟩ := fam2
    refine ⟨alikeB xs rs ts, Dicts2.names (e := fun z => (rs.all fun r => okB xs ts r z) && ts.all fun t => okB xs rs t z) hD1 hD2 rfl (fun x hx => hx) fun x hx => ?_, k H3 s13⟩
    obtain ⟨os, o1, o2⟩ := hg1 x hx
    obtain ⟨zs, p1, p2⟩ := hg2 x hx
    dsimp only
    rw [← ours_ok o1 p1, ← ours_ok p1 o1, ← anti_eq o1.anti p1.anti]
    exact eqW_msk o2 p2
end
end G14

set_option maxHeartbeats 8000000
namespace G14
open PySem PySem.Spec PyProof.Rows L2 G1
section
variable {P : Program} {w : World} {K : PySem.W.Frag} {mg : Str → Option Value} {base : Heap}
abbrev sRows : Stmt := top 70
abbrev nRows : List Str := ["_law_purse_here", "_law_names_here", "_law_many", "_law_base", "_law_found", "_law_way", "_law_turn", "_law_row", "_law_cut", "_law_head", "_law_name"]
theorem scRows : FnScope nRows ["_law_purse_here", "_law_names_here", "_law_many"] (defScope sRows) := ⟨rfl, rfl, rfl, by decide +kernel, rfl, by decide +kernel, by decide +kernel⟩
theorem row_more {H H7 : Hp} {p Fo B R : Addr} {as : List Addr} {rs : List (List Str)} {xs rr bs : List Str} {i n : Nat} (hF : H7 Fo = some (.lst (as.map V.ref))) (hr : RowsAt H7 as rs) (h3 : ∀ a ∈ as, H a = none ∧ a ≠ Fo) (h4 : rs.length = i)
    (h5 : ∀ r ∈ rs, r.Perm xs) (hB : H7 B = some (.lst (bs.map V.str))) (nBF : B ≠ Fo) (hp : Purse H7 p n) (b : But p H H7) (nF : H Fo = none) (hR : H7 R = some (.lst (rr.map V.str))) (nR : H R = none) (nRF : R ≠ Fo) (pr : rr.Perm xs) :
    upd H7 Fo (.lst (as.map V.ref ++ [V.ref R])) Fo = some (.lst ((as ++ [R]).map V.ref)) ∧ RowsAt (upd H7 Fo (.lst (as.map V.ref ++ [V.ref R]))) (as ++ [R]) (rs ++ [rr]) ∧ (∀ a ∈ as ++ [R], H a = none ∧ a ≠ Fo) ∧ (rs ++ [rr]).length = i + 1 ∧
      (∀ r ∈ rs ++ [rr], r.Perm xs) ∧ upd H7 Fo (.lst (as.map V.ref ++ [V.ref R])) B = some (.lst (bs.map V.str)) ∧ Purse (upd H7 Fo (.lst (as.map V.ref ++ [V.ref R]))) p n ∧ But p H (upd H7 Fo (.lst (as.map V.ref ++ [V.ref R]))) := by
  have keep : ∀ a, a ≠ Fo → ∀ o, H7 a = some o → upd H7 Fo (.lst (as.map V.ref ++ [V.ref R])) a = some o := fun a na o e => by
    rw [upd_ne na]
    exact e
  have nFp : Fo ≠ p := ne_purse hF ref_no_int hp
  refine ⟨by rw [upd_same, List.map_append]; rfl, RowsAt.snoc (hr.keep fun a ha => keep a (h3 a ha).2) (keep R nRF _ hR), fun a ha => ?_, by rw [List.length_append, h4]; rfl, fun r hr2 => ?_, keep B nBF _ hB, hp.but (p := Fo) But.upd (Ne.symm nFp), but_new b nF⟩
  · rcases List.mem_append.mp ha with ha | ha
    · exact h3 a ha
    · rw [List.mem_singleton.mp ha]
      exact ⟨nR, nRF⟩
  · rcases List.mem_append.mp hr2 with h | h
    · exact h5 r h
    · rw [List.mem_singleton.mp h]
      exact pr
theorem ok_rows {f fS fD : Addr} {fd fdS fdD : FuncData} (F : FnP K "_law_rows_of" sRows f fd) (L : Lib K mg)
    (FS : FnP K "_law_shuffled" sShuf fS fdS) (gS : mg "_law_shuffled" = some (.ref fS)) (GS : FnOk P w K mg base CX0 3 fS fdS ["_law_purse_here", "_law_some"] (spShuf K))
    (FD : FnP K "_law_draw" sDraw fD fdD) (gD : mg "_law_draw" = some (.ref fD)) (GD : FnOk P w K mg base CX0 2 fD fdD ["_law_purse_here", "_law_many"] spDraw) :
    FnOk P w K mg base CX0 4 f fd ["_law_purse_here", "_law_names_here", "_law_many"] (spRows K) := by
  have bS : Binds K fdS ["_law_purse_here", "_law_some"] [] := FS.bindsN fun _ _ _ _ _ _ us hl => match us, hl with | [_, _], _ => rfl
  have bD : Binds K fdD ["_law_purse_here", "_law_many"] [] := FD.bindsN fun _ _ _ _ _ _ us hl => match us, hl with | [_, _], _ => rfl
  refine okN F scRows (fun vs H Q E h => ?_) (fun cdv A outer s H vs Q E hr h => ?_)
  · obtain ⟨_, _, _, _, _, rfl, _⟩ := h
    rfl
  · obtain ⟨p, n, m, c, xs, rfl, m1, m4, hp, hc, hS, np, nd, x1, x6, k⟩ := h
    have hr2 : Room 2 (A.deeper (envOfC "_law_rows_of" (defScope sRows) s.heap.objs.size f cdv)) := hr.mono (by decide)
    refine ⟨_, pss_cons (ps_par (i := 3) (j := 4) (by rfl) scRows.nd rfl rfl (by decide) rfl rfl (pa_cons (pe_call GS hr rfl gS FS.kp bS .nil pass0 (pa_cons (pv 0) (pa_cons (pv 1) pa_nil))) (pa_cons (pe_lst pa_nil) pa_nil)) (by rfl))
      (pss_cons (ps_set (i := 5) scRows.nd rfl (Or.inl rfl) (pe_call GD hr2 rfl gD FD.kp bD .nil pass0 (pa_cons (pv 0) (pa_cons pe_int pa_nil))))
      (pss_cons (ps_for PassesOwn.never rfl (pi_range1 rfl L.range (pa_cons (pv 2) pa_nil)) (pg_name (i := 6) scRows.nd rfl (Or.inl rfl))
        (pss_cons (ps_set (i := 7) scRows.nd rfl (Or.inl rfl) (pe_call GS hr rfl gS FS.kp bS .nil pass0 (pa_cons (pv 0) (pa_cons (pv 1) pa_nil))))
        (pss_cons (ps_if (pt_cmpR op_gt (pv 5) pe_int (nomark _))
          (pss_cons (ps_asg (pe_tup (pa_cons (pe_call GD hr2 rfl gD FD.kp bD .nil pass0 (pa_cons (pv 0) (pa_cons (pe_callB call_len_seq (by rfl) L.len PySem.boot_len (pa_cons (pv 1) pa_nil)) pa_nil)))
              (pa_cons (pe_slice sl_list (pv 7) po_none (po_some (pe_op op_sub (pe_op op_add (pe_call GD hr2 rfl gD FD.kp bD .nil pass0 (pa_cons (pv 0) (pa_cons pe_int pa_nil))) (pv 5)) pe_int))) pa_nil)))
              (pg_tup (n := 2) (by rfl) (pgs_cons (pg_name (i := 8) scRows.nd rfl (Or.inl rfl)) (pgs_cons (pg_name (i := 9) scRows.nd rfl (Or.inr rfl)) pgs_nil))))
          (pss_cons (ps_set (i := 7) scRows.nd rfl (Or.inl rfl) (pe_op op_cat (pv 9)
            (pe_lc (own := [("_law_name", 10)]) (g := gName 10) (tt := tTest (tOp (rIn K true) (tVar 10) (tVar 9))) (te := tVar 10) rfl scRows.nd (pi_list (pv 3))
              (blkOk_by (N := nRows) (sc := defScope sRows) (by decide +kernel)) (fun _ _ _ _ _ => pg_name (i := 10) scRows.nd rfl (Or.inl rfl))
              (fun _ _ _ _ _ => pts_one (pt_cmpR op_notIn_seq (pv 10) (pv 9) (by rfl))) (fun _ _ _ _ _ => pv 10))))
          (pss_one (ps_set (i := 7) scRows.nd rfl (Or.inl rfl) (pe_ifExp (pt_cmpR op_gt (pv 8) pe_int (nomark _)) (pv 7) (pe_revL (pv 7))))))) pss_nil)
        (pss_one (ps_expr (pe_bm PySem.F.plainAttrs_list PySem.F.slot_list_append PySem.F.type_list_append mt_append (pv 4) (pa_cons (pv 7) pa_nil)))))))
      (pss_one (ps_ret (pv 4))))), ?_⟩
    refine ⟨_, rfl, _, rfl, p, n, xs.map V.str, c, rfl, hp, by omega, hS, np, (by rw [List.length_map]; omega), fun B ys H1 perm hB nB hp1 hb1 => ?_⟩
    obtain ⟨bs, rfl, pb⟩ := perm_strs perm
    rw [List.length_map] at hp1
    refine ⟨Nat.zero_le _, fun Fo nF => ⟨_, _, rfl, ?_⟩⟩
    have s2 : Same H1 (upd H1 Fo (.lst [])) := sn nF
    have fF : upd H1 Fo (.lst []) Fo = some (.lst []) := upd_same
    have nFH : H Fo = none := new_back hb1 hp1 nF
    have nBF : B ≠ Fo := ne_of_none hB nF
    generalize upd H1 Fo (.lst []) = H2 at s2 fF ⊢
    refine ⟨_, rfl, p, 3, c + 3 * xs.length, rfl, by decide, by decide, hp1.same s2, by omega, fun way H3 w0 w3 hp3 hb3 => ?_⟩
    have nFp : Fo ≠ p := ne_purse fF (fun v hv => nomatch hv) (hp1.same s2)
    have nBp : B ≠ p := ne_purse hB str_no_int hp1
    have b3 : But p H H3 := (hb1.trans (But.same s2)).trans hb3
    refine ⟨_, rfl, m, rfl, by omega, by omega, ?_⟩
    refine for_range (lo := 0) (n := m.toNat) (fun i σ H' => ∃ (o6 o7 o8 o9 : Option V) (as : List Addr) (rs : List (List Str)), σ = [some (.ref p), some (.ref n), some (.int m), some (.ref B), some (.ref Fo), some (.int way), o6, o7, o8, o9, none] ∧
        H' Fo = some (.lst (as.map V.ref)) ∧ RowsAt H' as rs ∧ (∀ a ∈ as, H a = none ∧ a ≠ Fo) ∧ rs.length = i ∧ (∀ r ∈ rs, r.Perm xs) ∧ H' B = some (.lst (bs.map V.str)) ∧ Purse H' p (c + 30 + 30 * i) ∧ But p H H')
      ⟨none, none, none, none, [], [], rfl, hb3 _ _ nFp fF, .nil, (fun a ha => nomatch ha), rfl, (fun r hr => nomatch hr), hb3 _ _ nBp (s2 _ _ hB), hp3.mono (by omega), b3⟩ ?_ ?_
    · rintro i σ H4 hi ⟨o6, o7, o8, o9, as, rs, rfl, g1, g2, g3, g4, g5, g6, g7, g8⟩
      refine ⟨_, rfl, _, rfl, p, n, xs.map V.str, _, rfl, g7, by omega, SqL.but hS g8 np, np, (by rw [List.length_map]; omega), fun R ys H5 perm5 hR nR hp5 hb5 => ?_⟩
      obtain ⟨rr, rfl, pr⟩ := perm_strs perm5
      rw [List.length_map] at hp5
      have b5 : But p H H5 := g8.trans hb5
      have nRH : H R = none := new_back g8 g7 nR
      have nRF : R ≠ Fo := Ne.symm (ne_of_none g1 nR)
      have f5 : H5 Fo = some (.lst (as.map V.ref)) := hb5 _ _ nFp g1
      have r5 : RowsAt H5 as rs := g2.but hb5 g7
      have e5 : H5 B = some (.lst (bs.map V.str)) := hb5 _ _ nBp g6
      refine ⟨_, rfl, _, _, rfl, rfl, _, rfl, ?_⟩
      refine ite2 (fun _ => ?_) (fun _ => ?_)
      · -- the head of this row, the others in the order of the base
        have nRp : R ≠ p := ne_purse hR str_no_int hp5
        refine ⟨_, rfl, _, rfl, n, xs.map V.str, rfl, .inl (SqL.but hS b5 np), ?_⟩
        refine ⟨p, _, _, rfl, (by rw [List.length_map]; omega), (by rw [List.length_map]; omega), hp5, by omega, fun cut H6 c0 c1 hp6 hb6 => ?_⟩
        refine ⟨_, rfl, _, rfl, p, 3, _, rfl, by decide, by decide, hp6, by omega, fun q H7 q0 q3 hp7 hb7 => ?_⟩
        refine ⟨_, rfl, _, _, rfl, rfl, _, _, rfl, rfl, ?_⟩
        have w1 : 0 < way := of_decide_eq_true (by assumption)
        obtain ⟨t, ht⟩ := Int.eq_ofNat_of_zero_le (show 0 ≤ q + way - 1 by omega)
        refine ⟨_, rfl, ?_⟩
        rw [ht]
        have b57 : But p H5 H7 := hb6.trans hb7
        have hR7 := b57 _ _ nRp hR
        refine ⟨R, rr.map V.str, rfl, SqL.of hR7, fun Hd nHd => ?_⟩
        rw [cut_any, ← List.map_take]
        have s8 : Same H7 (upd H7 Hd (.lst ((rr.take t).map V.str))) := sn nHd
        have f8 : upd H7 Hd (.lst ((rr.take t).map V.str)) Hd = some (.lst ((rr.take t).map V.str)) := upd_same
        generalize upd H7 Hd (.lst ((rr.take t).map V.str)) = H8 at s8 f8 ⊢
        refine ⟨(show 2 ≤ sizeLine by decide), fun T nT => ⟨T, _, rfl, SqT.of upd_same, rfl, _, _, rfl, _, _, rfl, rfl, ?_⟩⟩
        have s9 : Same H8 (upd H8 T (.tup [.int cut, .ref Hd])) := sn nT
        generalize upd H8 T (.tup [.int cut, .ref Hd]) = H9 at s9 ⊢
        have s79 := s8.trans s9
        have nFp5 : Fo ≠ p := nFp
        have e9 : H9 B = some (.lst (bs.map V.str)) := s79 _ _ (b57 _ _ nBp e5)
        have f9 : H9 Fo = some (.lst (as.map V.ref)) := s79 _ _ (b57 _ _ nFp f5)
        have r9 : RowsAt H9 as rs := (r5.but b57 hp5).same s79
        have hp9 := hp7.same s79
        have b9 : But p H H9 := (b5.trans b57).trans (But.same s79)
        have h9 : H9 Hd = some (.lst ((rr.take t).map V.str)) := s9 _ _ f8
        refine ⟨_, rfl, _, rfl, B, rfl, ⟨_, SqL.of e9⟩, fun D2 hD2 => lc_list (K := K) (a := B) (xs := bs.map V.str)
          (fun i H' => H' D2 = some (.lst (((bs.take i).filter (fun z => decide (z ∉ rr.take t))).map V.str)) ∧ Same H9 H') ⟨upd_same, sn hD2⟩ (fun i H' _ h => SqL.of (h.2 _ _ e9)) ?_ ?_⟩
        · rintro j y H10 hj ⟨q1, q2⟩
          rw [List.getElem?_map] at hj
          obtain ⟨z, hz, rfl⟩ := Option.map_eq_some_iff.mp hj
          have tk : (bs.take (j + 1)).filter (fun z => decide (z ∉ rr.take t)) = (bs.take j).filter (fun z => decide (z ∉ rr.take t)) ++ [z].filter (fun z => decide (z ∉ rr.take t)) := by
            rw [List.take_succ, hz, List.filter_append]
            rfl
          refine ⟨rfl, _, rfl, _, rfl, Hd, (rr.take t).map V.str, rfl, .inl (SqL.of (q2 _ _ h9)), rfl, flat_strs, ?_⟩
          refine ⟨!decide (z ∈ rr.take t), by rw [if_pos rfl, inV_str], ?_⟩
          by_cases hm : z ∈ rr.take t
          · refine Eq.mpr (if_neg (show ¬ ((!decide (z ∈ rr.take t)) = true) by simp [hm])) ?_
            rw [tk, List.filter_cons_of_neg (by simp [hm]), List.filter_nil, List.append_nil]
            exact ⟨q1, q2⟩
          · refine Eq.mpr (if_pos (show (!decide (z ∈ rr.take t)) = true by simp [hm])) ?_
            refine ⟨_, rfl, _, q1, ?_, ?_, fun b o e => ?_⟩
            · refine small1000 ?_
              rw [List.length_map]
              have := List.length_filter_le (fun z => decide (z ∉ rr.take t)) (bs.take j)
              have := pb.length_eq
              have := List.length_take_le j bs
              have := List.length_take_le' j bs
              omega
            · rw [upd_same, tk, List.filter_cons_of_pos (by simp [hm]), List.filter_nil, List.map_append]
              rfl
            · rw [upd_ne (ne_of_none e hD2)]
              exact q2 _ _ e
        · rintro H10 ⟨q1, q2⟩
          rw [List.length_map, List.take_length] at q1
          have perm9 := mixed_perm nd pb pr t
          have len9 := perm9.length_eq
          rw [List.length_append] at len9
          refine ⟨Hd, D2, _, _, rfl, rfl, q2 _ _ h9, q1, ?_, fun C nC => ?_⟩
          · rw [List.length_map, List.length_map, len9]
            exact Nat.le_of_lt (small1000 (by omega))
          · rw [← List.map_append]
            generalize hmix : rr.take t ++ bs.filter (fun z => decide (z ∉ rr.take t)) = mx at perm9 ⊢
            have s10 : Same H9 (upd H10 C (.lst (mx.map V.str))) := q2.trans (sn nC)
            have fC : upd H10 C (.lst (mx.map V.str)) C = some (.lst (mx.map V.str)) := upd_same
            have nCH : H C = none := new_back (b9.trans (But.same q2)) (hp9.same q2) nC
            have nCF : C ≠ Fo := Ne.symm (ne_of_none (q2 _ _ f9) nC)
            generalize upd H10 C (.lst (mx.map V.str)) = H11 at s10 fC ⊢
            have e11 := s10 _ _ e9
            have f11 := s10 _ _ f9
            have r11 := r9.same s10
            have hp11 := hp9.same s10
            have b11 := b9.trans (But.same s10)
            refine ⟨_, rfl, _, _, rfl, rfl, _, rfl, ?_⟩
            refine ite2 (fun _ => ?_) (fun _ => ?_)
            · have q := row_more (i := i) f11 r11 g3 g4 g5 e11 nBF (hp11.mono (show _ ≤ c + 30 + 30 * (i + 1) by omega)) b11 nFH fC nCH nCF perm9
              refine ⟨_, rfl, _, rfl, .inl ⟨rfl, _, SqL.of f11⟩, _, rfl, Fo, as.map V.ref, .ref C, rfl, rfl, f11, small1000 (by rw [List.length_map, r11.len]; omega), ?_⟩
              exact ⟨_, _, _, _, as ++ [C], rs ++ [mx], rfl, q⟩
            · refine ⟨_, rfl, C, _, rfl, SqL.of fC, fun C2 nC2 => ?_⟩
              rw [← List.map_reverse]
              have s12 : Same H11 (upd H11 C2 (.lst (mx.reverse.map V.str))) := sn nC2
              have f12 : upd H11 C2 (.lst (mx.reverse.map V.str)) C2 = some (.lst (mx.reverse.map V.str)) := upd_same
              have nC2H : H C2 = none := new_back b11 hp11 nC2
              have nC2F : C2 ≠ Fo := Ne.symm (ne_of_none f11 nC2)
              generalize upd H11 C2 (.lst (mx.reverse.map V.str)) = H12 at s12 f12 ⊢
              have q := row_more (i := i) (s12 _ _ f11) (r11.same s12) g3 g4 g5 (s12 _ _ e11) nBF ((hp11.same s12).mono (show _ ≤ c + 30 + 30 * (i + 1) by omega)) (b11.trans (But.same s12)) nFH f12 nC2H nC2F (mx.reverse_perm.trans perm9)
              refine ⟨_, rfl, .inl ⟨rfl, _, SqL.of (s12 _ _ f11)⟩, _, rfl, Fo, as.map V.ref, .ref C2, rfl, rfl, s12 _ _ f11, small1000 (by rw [List.length_map, r11.len]; omega), ?_⟩
              exact ⟨_, _, _, _, as ++ [C2], rs ++ [mx.reverse], rfl, q⟩
      · have q := row_more (i := i) f5 r5 g3 g4 g5 e5 nBF (hp5.mono (show _ ≤ c + 30 + 30 * (i + 1) by omega)) b5 nFH hR nRH nRF pr
        refine ⟨_, rfl, .inl ⟨rfl, _, SqL.of f5⟩, _, rfl, Fo, as.map V.ref, .ref R, rfl, rfl, f5, small1000 (by rw [List.length_map, r5.len]; omega), ?_⟩
        exact ⟨_, _, _, _, as ++ [R], rs ++ [rr], rfl, q⟩
    · rintro σ H4 ⟨o6, o7, o8, o9, as, rs, rfl, g1, g2, g3, g4, g5, g6, g7, g8⟩
      exact ⟨_, rfl, k Fo as rs H4 g1 nFH g2 g3 (by omega) g5 (g7.mono (by omega)) g8⟩
end
end G14

set_option maxHeartbeats 8000000
namespace G14
open PySem PySem.Spec PyProof.Rows L2 G1
section
variable {P : Program} {w : World} {K : PySem.W.Frag} {mg : Str → Option Value} {base : Heap}
abbrev sWord : Stmt := top 68
theorem scWord : FnScope ["_law_purse_here", "_law_found", "_law_turn"] ["_law_purse_here"] (defScope sWord) := ⟨rfl, rfl, rfl, by decide +kernel, rfl, by decide +kernel, by decide +kernel⟩
theorem len1 (z : Str) (ch : Nat) : (z ++ (⟨#[ch]⟩ : Str)).length = z.length + 1 := by
  show (z.cps ++ #[ch]).size = z.cps.size + 1
  simp
theorem cps1 (z : Str) (ch : Nat) : (z ++ (⟨#[ch]⟩ : Str)).cps.toList = z.cps.toList ++ [ch] := by
  show (z.cps ++ #[ch]).toList = z.cps.toList ++ [ch]
  simp
theorem abc_at (r : Int) (h0 : 0 ≤ r) (h1 : r < 26) : ∃ c, atI ("abcdefghijklmnopqrstuvwxyz" : Str).cps.toList r = some c ∧ (97 ≤ c ∧ c ≤ 122) := by
  have key : ∀ n : Fin 26, (("abcdefghijklmnopqrstuvwxyz" : Str).cps.toList[n.1]?).any (fun c => decide (97 ≤ c ∧ c ≤ 122)) = true := by decide +kernel
  obtain ⟨k, rfl⟩ := Int.eq_ofNat_of_zero_le h0
  have hk := key ⟨k, by omega⟩
  cases e : ("abcdefghijklmnopqrstuvwxyz" : Str).cps.toList[k]? with
  | none =>
    rw [show ("abcdefghijklmnopqrstuvwxyz" : Str).cps.toList[(⟨k, by omega⟩ : Fin 26).1]? = none from e] at hk
    cases hk
  | some c =>
    rw [show ("abcdefghijklmnopqrstuvwxyz" : Str).cps.toList[(⟨k, by omega⟩ : Fin 26).1]? = some c from e] at hk
    exact ⟨c, by
      have q := e
      unfold atI
      obtain ⟨hlt, _⟩ := List.getElem?_eq_some_iff.mp q
      have := atI_nat (α := Nat) (xs := ("abcdefghijklmnopqrstuvwxyz" : Str).cps.toList) q
      unfold atI at this
      exact this, by simpa using hk⟩
theorem ok_word {f fD : Addr} {fd fdD : FuncData} (F : FnP K "_law_word" sWord f fd) (L : Lib K mg) (FD : FnP K "_law_draw" sDraw fD fdD) (gD : mg "_law_draw" = some (.ref fD))
    (GD : FnOk P w K mg base CX0 2 fD fdD ["_law_purse_here", "_law_many"] spDraw) : FnOk P w K mg base CX0 3 f fd ["_law_purse_here"] spWord := by
  have bD : Binds K fdD ["_law_purse_here", "_law_many"] [] := FD.bindsN fun _ _ _ _ _ _ us hl => match us, hl with | [_, _], _ => rfl
  refine okN F scWord (fun vs H Q E h => ?_) (fun cdv A outer s H vs Q E hr h => ?_)
  · obtain ⟨_, _, rfl, _⟩ := h
    rfl
  · obtain ⟨p, c, rfl, hp, hc, k⟩ := h
    refine ⟨_, pss_cons (ps_set (i := 1) scWord.nd rfl (Or.inl rfl) pe_str)
      (pss_cons (ps_for PassesOwn.never rfl (pi_range1 rfl L.range (pa_cons (pe_op op_add pe_int (pe_call GD hr rfl gD FD.kp bD .nil pass0 (pa_cons (pv 0) (pa_cons pe_int pa_nil)))) pa_nil)) (pg_name (i := 2) scWord.nd rfl (Or.inl rfl))
        (pss_one (ps_set (i := 1) scWord.nd rfl (Or.inl rfl) (pe_op op_add_str (pv 1) (pe_ix ix_str pe_str (pe_call GD hr rfl gD FD.kp bD .nil pass0 (pa_cons (pv 0) (pa_cons pe_int pa_nil))) (fun _ _ => rfl))))))
      (pss_one (ps_ret (pv 1)))), ?_⟩
    refine ⟨_, rfl, p, 8, c, rfl, by decide, by decide, hp, by omega, fun r H1 r0 r1 hp1 hb1 => ?_⟩
    refine ⟨_, _, rfl, rfl, _, rfl, by omega, by omega, ?_⟩
    generalize hn : (1 + r).toNat = n
    have n8 : n ≤ 8 := by omega
    have n1 : 1 ≤ n := by omega
    refine for_range (lo := 0) (n := n) (fun i σ H' => ∃ (z : Str) (o : Option V), σ = [some (.ref p), some (.str z), o] ∧ z.length = i ∧ Letters z ∧ Purse H' p (c + 3 + 3 * i) ∧ But p H H')
      ⟨_, none, rfl, rfl, (fun c hc => by cases hc), hp1.mono (by omega), hb1⟩ ?_ ?_
    · rintro i σ H' hi ⟨z, o, rfl, zl, zs, hp', hb'⟩
      refine ⟨_, rfl, _, rfl, p, 26, _, rfl, by decide, by decide, hp', by omega, fun q H2 q0 q1 hp2 hb2 => ?_⟩
      obtain ⟨ch, hch, hc26⟩ := abc_at q q0 q1
      refine ⟨_, q, ch, rfl, rfl, by decide +kernel, hch, _, _, rfl, rfl, ?_, _, _, rfl, ?_, ?_, hp2.mono (by omega), hb'.trans hb2⟩
      · show z.length + 1 ≤ sizeLine
        exact Nat.le_of_lt (small1000 (by omega))
      · rw [len1]
        omega
      · intro d hd
        rcases List.mem_append.mp (show d ∈ z.cps.toList ++ [ch] by rw [← cps1]; exact hd) with hd | hd
        · exact zs d hd
        · rw [List.mem_singleton.mp hd]
          exact hc26
    · rintro σ H' ⟨z, o, rfl, zl, zs, hp', hb'⟩
      exact ⟨_, rfl, k z H' ⟨by omega, by omega, zs⟩ (hp'.mono (by omega)) hb'⟩
end
end G14

set_option maxHeartbeats 8000000
namespace G14
open PySem PySem.Spec PyProof.Rows L2 G1
section
variable {P : Program} {w : World} {K : PySem.W.Frag} {mg : Str → Option Value} {base : Heap}
abbrev sNames : Stmt := top 69
abbrev nNames : List Str := ["_law_purse_here", "_law_many", "_law_some", "_law_fresh", "_law_word_here"]
theorem scNames : FnScope nNames ["_law_purse_here", "_law_many"] (defScope sNames) := ⟨rfl, rfl, rfl, by decide +kernel, rfl, by decide +kernel, by decide +kernel⟩
theorem ok_names {f fS fW : Addr} {fd fdS fdW : FuncData} (F : FnP K "_law_names" sNames f fd) (L : Lib K mg) (ls : mg "sorted" = none)
    (FS : FnP K "_law_shuffled" sShuf fS fdS) (gS : mg "_law_shuffled" = some (.ref fS)) (GS : FnOk P w K mg base CX0 3 fS fdS ["_law_purse_here", "_law_some"] (spShuf K))
    (FW : FnP K "_law_word" sWord fW fdW) (gW : mg "_law_word" = some (.ref fW)) (GW : FnOk P w K mg base CX0 3 fW fdW ["_law_purse_here"] spWord) : FnOk P w K mg base CX0 4 f fd ["_law_purse_here", "_law_many"] spNames := by
  have bS : Binds K fdS ["_law_purse_here", "_law_some"] [] := FS.bindsN fun _ _ _ _ _ _ us hl => match us, hl with | [_, _], _ => rfl
  have bW : Binds K fdW ["_law_purse_here"] [] := FW.bindsN fun _ _ _ _ _ _ us hl => match us, hl with | [_], _ => rfl
  refine okN F scNames (fun vs H Q E h => ?_) (fun cdv A outer s H vs Q E hr h => ?_)
  · obtain ⟨_, _, _, rfl, _⟩ := h
    rfl
  · obtain ⟨p, m, c, rfl, m1, m6, hp, hc, k⟩ := h
    refine ⟨_, pss_cons (ps_asg (pe_tup (pa_cons (pe_lst (pa_cons pe_str (pa_cons pe_str (pa_cons pe_str (pa_cons pe_str (pa_cons pe_str (pa_cons pe_str (pa_cons pe_str (pa_cons pe_str pa_nil)))))))))
          (pa_cons (pe_call GW hr rfl gW FW.kp bW .nil pass0 (pa_cons (pv 0) pa_nil)) pa_nil)))
          (pg_tup (n := 2) (by rfl) (pgs_cons (pg_name (i := 2) scNames.nd rfl (Or.inr rfl)) (pgs_cons (pg_name (i := 3) scNames.nd rfl (Or.inl rfl)) pgs_nil))))
      (pss_one (ps_ret (pe_callB cr_sortedS (by rfl) ls (by decide +kernel) (pa_cons (pe_slice sl_list (pe_call GS hr rfl gS FS.kp bS .nil pass0 (pa_cons (pv 0) (pa_cons (pe_op op_cat (pv 2)
        (pe_lc (own := [("_law_word_here", 4)]) (g := gName 4) (tt := tTest (tOp (rIn K true) (tVar 4) (tVar 2))) (te := tVar 4) rfl scNames.nd (pi_list (pe_lst (pa_cons (pv 3) pa_nil)))
          (blkOk_by (N := nNames) (sc := defScope sNames) (by decide +kernel)) (fun _ _ _ _ _ => pg_name (i := 4) scNames.nd rfl (Or.inl rfl))
          (fun _ _ _ _ _ => pts_one (pt_cmpR op_notIn_seq (pv 4) (pv 2) (by rfl))) (fun _ _ _ _ _ => pv 4))) pa_nil))) po_none (po_some (pv 1))) pa_nil)))), ?_⟩
    obtain ⟨k1, rfl⟩ := Int.eq_ofNat_of_zero_le (show 0 ≤ m by omega)
    have sz2 : 2 ≤ sizeLine := by decide
    refine ⟨by decide, fun l8 n8 => ?_⟩
    have f8 : upd H l8 (.lst (some8.map V.str)) l8 = some (.lst (some8.map V.str)) := upd_same
    have s0 : Same H (upd H l8 (.lst (some8.map V.str))) := sn n8
    refine ⟨_, rfl, p, c, rfl, hp.same s0, by omega, fun z H1 hz hp1 hb1 => ?_⟩
    have n8p : l8 ≠ p := by
      obtain ⟨pxs, hpx, _⟩ := id hp
      exact Ne.symm (ne_of_none hpx n8)
    have g8 : H1 l8 = some (.lst (some8.map V.str)) := hb1 _ _ n8p f8
    have b1 : But p H H1 := (But.same s0).trans hb1
    refine ⟨sz2, fun T nT => ⟨T, _, rfl, SqT.of upd_same, rfl, _, _, rfl, _, _, rfl, rfl, ?_⟩⟩
    have s2 : Same H1 (upd H1 T (.tup [.ref l8, .str z])) := sn nT
    generalize upd H1 T (.tup [.ref l8, .str z]) = H2 at s2 ⊢
    refine ⟨_, rfl, _, rfl, _, rfl, (show 1 ≤ sizeLine from by decide), fun l1 n1 => ?_⟩
    have s3 : Same H2 (upd H2 l1 (.lst [.str z])) := sn n1
    have f1 : upd H2 l1 (.lst [.str z]) l1 = some (.lst [.str z]) := upd_same
    generalize upd H2 l1 (.lst [.str z]) = H3 at s3 f1 ⊢
    have h8 : H3 l8 = some (.lst (some8.map V.str)) := s3 _ _ (s2 _ _ g8)
    refine ⟨l1, rfl, ⟨_, SqL.of f1⟩, fun D2 hD2 => lc_list (K := K) (a := l1) (xs := [.str z]) (fun i H' => H' D2 = some (.lst (if i = 0 then [] else if z ∈ some8 then [] else [.str z])) ∧ Same H3 H') ⟨upd_same, sn hD2⟩ (fun i H' _ h => SqL.of (h.2 _ _ f1)) ?_ ?_⟩
    · rintro i y H4 hi ⟨g1, g2⟩
      have hi0 : i = 0 ∧ y = .str z := by
        match i, hi with
        | 0, hi => exact ⟨rfl, (Option.some.inj hi).symm⟩
        | (j + 1), hi => cases hi
      obtain ⟨rfl, rfl⟩ := hi0
      refine ⟨rfl, _, rfl, _, rfl, l8, some8.map V.str, rfl, .inl (SqL.of (g2 _ _ h8)), rfl, flat_strs, ?_⟩
      refine ⟨!decide (z ∈ some8), by rw [if_pos rfl, inV_str], ?_⟩
      rw [if_pos rfl] at g1
      by_cases h : z ∈ some8
      · rw [if_neg (by simp [h]), if_neg (show ¬ (0 + 1 = 0) by decide), if_pos h]
        exact ⟨g1, g2⟩
      · rw [if_pos (by simp [h])]
        refine ⟨_, rfl, [], g1, (show 0 < sizeLine by decide), ?_, fun b o e => ?_⟩
        · rw [if_neg (show ¬ (0 + 1 = 0) by decide), if_neg h]
          exact upd_same
        · rw [upd_ne (ne_of_none e hD2)]
          exact g2 _ _ e
    · rintro H4 ⟨g1, g2⟩
      rw [if_neg (show ¬ ([V.str z].length = 0) from Nat.one_ne_zero), nil_or] at g1
      refine ⟨l8, D2, _, _, rfl, rfl, g2 _ _ h8, g1, ?_, fun C nC => ?_⟩
      · have q := nine_len z
        unfold nine at q
        rw [List.length_append] at q
        rw [List.length_map, List.length_map]
        exact Nat.le_of_lt (small1000 (by omega))
      · rw [← List.map_append, show (some8 ++ (if z ∈ some8 then [] else [z])) = nine z from rfl]
        have s4 : Same H4 (upd H4 C (.lst ((nine z).map V.str))) := sn nC
        have fC : upd H4 C (.lst ((nine z).map V.str)) C = some (.lst ((nine z).map V.str)) := upd_same
        have s14 : Same H1 (upd H4 C (.lst ((nine z).map V.str))) := ((s2.trans s3).trans g2).trans s4
        have hp4 := hp1.same s14
        have ql := nine_len z
        have nCp : C ≠ p := by
          obtain ⟨pxs, hpx, _⟩ := hp1.same ((s2.trans s3).trans g2)
          exact Ne.symm (ne_of_none hpx nC)
        generalize upd H4 C (.lst ((nine z).map V.str)) = H5 at s4 fC s14 hp4 ⊢
        refine ⟨p, C, (nine z).map V.str, c + 27, rfl, hp4, by omega, SqL.of fC, nCp, (by rw [List.length_map]; omega), fun D ys H6 perm hD nD hp6 hb6 => ?_⟩
        obtain ⟨zs, rfl, pz⟩ := perm_strs perm
        have lz := pz.length_eq
        have b6 : But p H H6 := (b1.trans (But.same s14)).trans hb6
        refine ⟨_, rfl, _, rfl, D, zs.map V.str, rfl, SqL.of hD, fun E2 nE => ?_⟩
        rw [cut_take (by rw [List.length_map]; omega), ← List.map_take]
        have s7 : Same H6 (upd H6 E2 (.lst ((zs.take k1).map V.str))) := sn nE
        have fE : upd H6 E2 (.lst ((zs.take k1).map V.str)) E2 = some (.lst ((zs.take k1).map V.str)) := upd_same
        generalize upd H6 E2 (.lst ((zs.take k1).map V.str)) = H7 at s7 fE ⊢
        refine ⟨E2, zs.take k1, rfl, SqL.of fE, (by rw [List.length_take]; omega), fun us G perm2 so nG => ?_⟩
        have hp7 := hp6.same s7
        have b7 : But p H H7 := b6.trans (But.same s7)
        have nGH : H G = none := by
          cases e : H G with
          | none => rfl
          | some o =>
            obtain ⟨pxs, hpx, _⟩ := id hp7
            have := b7 _ _ (Ne.symm (ne_of_none hpx nG)) e
            rw [nG] at this
            cases this
        have len : us.length = k1 := by
          rw [perm2.length_eq, List.length_take]
          omega
        have memz : ∀ x ∈ us, x ∈ nine z := fun x hx => pz.mem_iff.mp (List.mem_of_mem_take (perm2.mem_iff.mp hx))
        refine k G us _ ⟨fun x hx => nine_nm hz x (memz x hx), ?_, so, ?_⟩ (by omega) upd_same nGH ((hp7.same (sn nG)).mono (by rw [List.length_map]; omega)) (but_new b7 nGH)
        · exact perm2.nodup_iff.mpr (List.Nodup.sublist (List.take_sublist _ _) (pz.nodup_iff.mpr (nine_nd z)))
        · exact (nine_st z).imp (fun h q => h (memz _ q)) (fun h q => h (memz _ q))
end
end G14

set_option maxHeartbeats 8000000
namespace G14
open PySem PySem.Spec PyProof.Rows L2 G1
def spPurses (K : PySem.W.Frag) : Sp := fun vs H Q _ => ∃ (a : Addr) (few : Int) (ns : List Int), vs = [.ref a, .int few] ∧ SqL K H a (ns.map V.int) ∧ few ≤ 100 ∧
  ∀ (D : Addr) (ps : List Addr) (H' : Hp), H D = none → H' D = some (.lst (ps.map V.ref)) → (∀ p ∈ ps, Purse H' p 0 ∧ p ≠ D) → ps.length ≤ 100 → Same H H' → Q (.ref D) H'
/-- the same, with how many they are -/
def spPursesS (K : PySem.W.Frag) : Sp := fun vs H Q _ => ∃ (a : Addr) (few : Int) (ns : List Int), vs = [.ref a, .int few] ∧ SqL K H a (ns.map V.int) ∧ few ≤ 100 ∧
  ∀ (D : Addr) (ps : List Addr) (H' : Hp), H D = none → H' D = some (.lst (ps.map V.ref)) → (∀ p ∈ ps, Purse H' p 0 ∧ p ≠ D) → ps.length ≤ 100 ∧ ((ps.length : Int) ≤ 1 ∨ (ps.length : Int) ≤ few) → Same H H' → Q (.ref D) H'
section
variable {P : Program} {w : World} {K : PySem.W.Frag} {mg : Str → Option Value} {base : Heap}
abbrev sPurses : Stmt := top 66
theorem scPurses : FnScope ["_law_script", "_law_few", "_law_at"] ["_law_script", "_law_few"] (defScope sPurses) := ⟨rfl, rfl, rfl, by decide +kernel, rfl, by decide +kernel, by decide +kernel⟩
theorem ok_pursesS {f fP : Addr} {fd fdP : FuncData} (F : FnP K "_law_purses" sPurses f fd) (L : Lib K mg) (FP : FnP K "_law_purse" sPurse fP fdP) (gP : mg "_law_purse" = some (.ref fP)) :
    FnOk P w K mg base CX0 2 f fd ["_law_script", "_law_few"] (spPursesS K) := by
  have GP : FnOk P w K mg base CX0 1 fP fdP ["_law_script", "_law_at"] (spPurse K) := ok_purse FP L
  have bP : Binds K fdP ["_law_script", "_law_at"] [] := FP.bindsN fun _ _ _ _ _ _ us hl => match us, hl with | [_, _], _ => rfl
  refine okN F scPurses (fun vs H Q E h => ?_) (fun cdv A outer s H vs Q E hr h => ?_)
  · obtain ⟨_, _, _, rfl, _⟩ := h
    rfl
  · obtain ⟨a, few, ns, rfl, hS, f1, k⟩ := h
    refine ⟨_, pss_one (ps_ret (pe_lc (own := [("_law_at", 2)]) (g := gName 2) (tt := tYes) rfl scPurses.nd
      (pi_range1 rfl L.range (pa_cons (pe_callB (call_max2 rfl) (by rfl) L.max (by decide +kernel) (pa_cons pe_int (pa_cons (pe_callB (call_min2 rfl) (by rfl) L.min (by decide +kernel) (pa_cons (pv 1) (pa_cons (pe_callB call_len_seq (by rfl) L.len PySem.boot_len (pa_cons (pv 0) pa_nil)) pa_nil))) pa_nil))) pa_nil))
      (blkOk_by (N := ["_law_script", "_law_few", "_law_at"]) (sc := defScope sPurses) (by decide +kernel)) (fun _ _ _ _ _ => pg_name (i := 2) scPurses.nd rfl (Or.inl rfl)) (fun _ _ _ _ _ => pts_nil)
      (fun _ _ _ _ _ => pe_call GP hr rfl gP FP.kp bP .nil pass0 (pa_cons (pv 0) (pa_cons (pv 2) pa_nil))))), ?_⟩
    refine ⟨_, rfl, _, rfl, a, _, rfl, .inl hS, _, _, rfl, _, _, rfl, ?_⟩
    generalize hj : (if (if ((ns.map V.int).length : Int) < few then ((ns.map V.int).length : Int) else few) > 1 then (if ((ns.map V.int).length : Int) < few then ((ns.map V.int).length : Int) else few) else (1 : Int)) = j
    have j1 : j ≤ 100 := by
      rw [← hj]
      split <;> (try split) <;> omega
    have j2 : j ≤ 1 ∨ j ≤ few := by
      rw [← hj]
      split <;> (try split) <;> omega
    have j0 : 1 ≤ j := by
      rw [← hj]
      split <;> (try split) <;> omega
    refine ⟨j, rfl, by omega, by omega, fun D hD => lc_range (lo := 0) (n := j.toNat) (fun i H' => ∃ ps : List Addr, ps.length = i ∧ H' D = some (.lst (ps.map V.ref)) ∧ (∀ p ∈ ps, Purse H' p 0 ∧ p ≠ D) ∧ Same H H')
      ⟨[], rfl, upd_same, (fun p hp => nomatch hp), fun b o e => by rw [upd_ne (ne_of_none e hD)]; exact e⟩ ?_ ?_⟩
    · rintro i H' hi ⟨ps, hl, hD', hps, sm⟩
      have hi2 : i ≤ 100 := by omega
      refine ⟨rfl, _, rfl, _, rfl, a, (0 : Int) + (i : Int), ns, rfl, sm.seq hS, by omega, by omega, fun p H2 np hp s2 => ?_⟩
      have npD : p ≠ D := fun q => by
        rw [q, hD'] at np
        cases np
      refine ⟨ps.map V.ref, s2 _ _ hD', small1000 (by rw [List.length_map]; omega), ps ++ [p], by simp [hl], by rw [upd_same, List.map_append]; rfl, fun q hq => ?_, fun b o e => ?_⟩
      · rcases List.mem_append.mp hq with hq | hq
        · obtain ⟨h1, h2⟩ := hps q hq
          exact ⟨(h1.same s2).but (p := D) But.upd h2, h2⟩
        · rw [List.mem_singleton.mp hq]
          exact ⟨hp.but (p := D) But.upd npD, npD⟩
      · rw [upd_ne (ne_of_none e hD)]
        exact s2 _ _ (sm _ _ e)
    · rintro H' ⟨ps, hl, hD', hps, sm⟩
      exact k D ps H' hD hD' hps ⟨by omega, by omega⟩ sm
theorem ok_purses {f fP : Addr} {fd fdP : FuncData} (F : FnP K "_law_purses" sPurses f fd) (L : Lib K mg) (FP : FnP K "_law_purse" sPurse fP fdP) (gP : mg "_law_purse" = some (.ref fP)) :
    FnOk P w K mg base CX0 2 f fd ["_law_script", "_law_few"] (spPurses K) :=
  (ok_pursesS F L FP gP).imp fun _ _ _ _ ⟨a, few, ns, e, h1, h2, k⟩ => ⟨a, few, ns, e, h1, h2, fun D ps H' n hD hp l s => k D ps H' n hD hp l.1 s⟩
end
end G14

set_option maxHeartbeats 8000000
namespace G14
open PySem PySem.Spec PyProof.Rows L2 G1
theorem lists_nats {K : PySem.W.Frag} {H : Hp} {a c : Addr} {ns : List Nat} (ha : SqL K H a (natsV ns)) (hc : SqL K H c (natsV ns)) : Lists2 K H 0 (.ref a) (.ref c) true := by
  refine ⟨a, c, _, _, rfl, rfl, ha, hc, .inr ⟨rfl, fun _ => true, fun i x y hx hy => ?_, by simp⟩⟩
  rw [hx] at hy
  obtain rfl := Option.some.inj hy
  unfold natsV at hx
  rw [List.getElem?_map] at hx
  obtain ⟨j, _, rfl⟩ := Option.map_eq_some_iff.mp hx
  have e : eqV (.int (j : Int)) (.int (j : Int)) = true := by
    show ((j : Int) == (j : Int)) = true
    simp
  show EqW K H 0 (.int (j : Int)) (.int (j : Int)) true
  rw [← e]
  exact .flat rfl rfl
theorem lists_strs2 {K : PySem.W.Frag} {H : Hp} {a c : Addr} {xs : List Str} (ha : SqL K H a (xs.map V.str)) (hc : SqL K H c (xs.map V.str)) : Lists2 K H 0 (.ref a) (.ref c) true := by
  have q := lists_strs ha hc
  rwa [decide_eq_true rfl] at q
theorem sorted_ext {xs ys : List Str} (h1 : sortedS xs = true) (h2 : sortedS ys = true) (n1 : xs.Nodup) (n2 : ys.Nodup) (e : ∀ z, z ∈ xs ↔ z ∈ ys) : xs = ys := sorted_uniq h1 h2 ((List.perm_ext_iff_of_nodup n1 n2).mpr fun z => e z)
/-! ### all fields -/
def subsS (acc : List (List Str)) (x : Str) : List (List Str) := acc ++ acc.map (· ++ [x])
def subs (xs : List Str) : List (List Str) := xs.foldl subsS [[]]
theorem subs_subl : ∀ (xs pre : List Str) (acc : List (List Str)), (∀ fs ∈ acc, fs.Sublist pre) → ∀ fs ∈ xs.foldl subsS acc, fs.Sublist (pre ++ xs)
  | [], pre, acc, h, fs, hf => by rw [List.append_nil]; exact h fs hf
  | x :: xs, pre, acc, h, fs, hf => by
    have q := subs_subl xs (pre ++ [x]) (subsS acc x) (fun gs hg => by
      rcases List.mem_append.mp hg with hg | hg
      · exact (h gs hg).trans (List.sublist_append_left _ _)
      · obtain ⟨g0, hg0, rfl⟩ := List.mem_map.mp hg
        exact List.Sublist.append (h g0 hg0) (.refl _)) fs hf
    rw [List.append_assoc] at q
    exact q
theorem subs_head : ∀ (xs : List Str) (t0 : List (List Str)), (∀ fs ∈ t0, 1 ≤ fs.length) → ∃ t, xs.foldl subsS ([] :: t0) = [] :: t ∧ ∀ fs ∈ t, 1 ≤ fs.length
  | [], t0, h => ⟨t0, rfl, h⟩
  | x :: xs, t0, h => by
    refine subs_head xs (t0 ++ ([] :: t0).map (· ++ [x])) fun fs hf => ?_
    rcases List.mem_append.mp hf with hf | hf
    · exact h fs hf
    · obtain ⟨g0, _, rfl⟩ := List.mem_map.mp hf
      rw [List.length_append]
      exact Nat.le_add_left _ _
theorem subs_len : ∀ (xs : List Str) (acc : List (List Str)), (xs.foldl subsS acc).length = acc.length * 2 ^ xs.length
  | [], acc => by simp
  | x :: xs, acc => by
    show (xs.foldl subsS (subsS acc x)).length = _
    rw [subs_len xs (subsS acc x)]
    unfold subsS
    rw [List.length_append, List.length_map, List.length_cons, Nat.pow_succ]
    rw [← Nat.two_mul, Nat.mul_assoc, Nat.mul_left_comm, Nat.mul_comm 2]
theorem subs_drop {xs fs : List Str} (h : fs ∈ (subs xs).drop 1) : fs.Sublist xs ∧ 1 ≤ fs.length := by
  obtain ⟨t, e, k⟩ := subs_head xs [] (fun fs hf => nomatch hf)
  have h2 : fs ∈ t := by
    unfold subs at h
    rw [e] at h
    exact h
  refine ⟨?_, k fs h2⟩
  have q := subs_subl xs [] [[]] (fun fs hf => by rw [List.mem_singleton.mp hf]; exact .refl _) fs (by rw [e]; exact List.mem_cons_of_mem _ h2)
  exact q
theorem pow_le5 {n : Nat} (h : n ≤ 7) : 2 ^ n ≤ 128 := Nat.pow_le_pow_right (by decide) h
theorem subs_le {xs : List Str} (h : xs.length ≤ 7) : (subs xs).length ≤ 128 := by
  unfold subs
  rw [subs_len, List.length_singleton, Nat.one_mul]
  exact pow_le5 h
theorem filter_first {r fs : List Str} : (r.filter fun y => decide (y ∈ fs)).take 1 = (fst? fs r).toList := by
  have q : (r.filter fun y => decide (y ∈ fs)).head? = fst? fs r := by rw [List.head?_filter]; rfl
  rw [← q]
  cases r.filter (fun y => decide (y ∈ fs)) with
  | nil => rfl
  | cons a t => rfl
/-- the cards of a field, where some rows may have none of it -/
def cdsOf (fs : List Str) (rs : List (List Str)) : List Str := rs.filterMap (fst? fs)
theorem cds_len {fs : List Str} {rs : List (List Str)} : (cdsOf fs rs).length ≤ rs.length := List.length_filterMap_le _ _
theorem cds_succ {fs r : List Str} {rs : List (List Str)} {i : Nat} (h : rs[i]? = some r) : cdsOf fs (rs.take (i + 1)) = cdsOf fs (rs.take i) ++ (fst? fs r).toList := by
  unfold cdsOf
  rw [List.take_succ, h, List.filterMap_append]
  show _ ++ [r].filterMap (fst? fs) = _
  cases e : fst? fs r with
  | none => rw [List.filterMap_cons_none e]; rfl
  | some z => rw [List.filterMap_cons_some e]; rfl
def spLC (K : PySem.W.Frag) : Sp := fun vs H Q _ => ∃ (R f : Addr) (as : List Addr) (rs : List (List Str)) (fs : List Str), vs = [.ref R, .ref f] ∧ H R = some (.lst (as.map V.ref)) ∧ RowsAt H as rs ∧ H f = some (.lst (fs.map V.str)) ∧ (∀ r ∈ rs, r.length ≤ 100) ∧ rs.length ≤ 60 ∧
  ∀ (ys : List Str) (D : Addr) (H' : Hp), Same H H' → H D = none → H' D = some (.lst (ys.map V.str)) → sortedS ys = true → ys.Nodup → (∀ z, z ∈ ys ↔ z ∈ cdsOf fs rs) → ys.length ≤ rs.length → Q (.ref D) H'
def spFlds (K : PySem.W.Frag) : Sp := fun vs H Q _ => ∃ (n : Addr) (xs : List Str), vs = [.ref n] ∧ H n = some (.lst (xs.map V.str)) ∧ xs.length ≤ 7 ∧
  ∀ (D : Addr) (ls : List Addr) (H' : Hp), Same H H' → H D = none → H' D = some (.lst (ls.map V.ref)) → RowsAt H' ls ((subs xs).drop 1) → Q (.ref D) H'
section
variable {P : Program} {w : World} {K : PySem.W.Frag} {mg : Str → Option Value} {base : Heap} {C : Addr}
end
end G14

set_option maxHeartbeats 8000000
namespace G14
open PySem PySem.Spec PyProof.Rows L2 G1
/-! ### fields and masks: the pure part -/
theorem subs_in : ∀ {xs fs : List Str} {g : List Str} {acc : List (List Str)}, g ∈ acc → fs.Sublist xs → g ++ fs ∈ xs.foldl subsS acc
  | [], fs, g, acc, h, s => by
    rw [List.sublist_nil.mp s, List.append_nil]
    exact h
  | x :: xs, fs, g, acc, h, s => by
    show g ++ fs ∈ xs.foldl subsS (subsS acc x)
    cases s with
    | cons _ s => exact subs_in (List.mem_append.mpr (.inl h)) s
    | @cons_cons fs _ _ s =>
      have q := subs_in (xs := xs) (fs := fs) (g := g ++ [x]) (acc := subsS acc x) (List.mem_append.mpr (.inr (List.mem_map.mpr ⟨g, h, rfl⟩))) s
      rw [List.append_assoc] at q
      exact q
theorem subs_mem {xs fs : List Str} (s : fs.Sublist xs) (l : 1 ≤ fs.length) : fs ∈ (subs xs).drop 1 := by
  obtain ⟨t, e, _⟩ := subs_head xs [] (fun fs hf => nomatch hf)
  have q := subs_in (g := []) (acc := [[]]) (List.mem_singleton.mpr rfl) s
  rw [List.nil_append] at q
  unfold subs
  rw [e] at q ⊢
  rcases List.mem_cons.mp q with h | h
  · rw [h] at l
    simp at l
  · exact h
theorem cds_mem {fs : List Str} {rs : List (List Str)} {z : Str} : z ∈ cdsOf fs rs ↔ ∃ r ∈ rs, fst? fs r = some z := by
  unfold cdsOf
  rw [List.mem_filterMap]
/-- z is the first one of the field in r -/
theorem fst_iff {fs : List Str} {z : Str} : ∀ {r : List Str}, z ∈ r → z ∈ fs → (fst? fs r = some z ↔ ∀ y ∈ r.take (r.idxOf z), y ∉ fs)
  | [], h, _ => by cases h
  | x :: r, h, hf => by
    unfold fst?
    by_cases e : x = z
    · subst e
      rw [List.find?_cons_of_pos (by simpa using hf), List.idxOf_cons_self]
      simp
    · have hr : z ∈ r := (List.mem_cons.mp h).resolve_left fun q => e q.symm
      have ei : (x :: r).idxOf z = r.idxOf z + 1 := by
        rw [List.idxOf_cons]
        have : (x == z) = false := by simpa using e
        rw [this]
        rfl
      rw [ei, List.take_succ_cons]
      by_cases hx : x ∈ fs
      · rw [List.find?_cons_of_pos (by simpa using hx)]
        constructor
        · intro q
          exact absurd (Option.some.inj q) e
        · intro q
          exact absurd hx (q x List.mem_cons_self)
      · rw [List.find?_cons_of_neg (by simpa using hx)]
        have ih := fst_iff (fs := fs) hr hf
        unfold fst? at ih
        rw [ih]
        constructor
        · intro q y hy
          rcases List.mem_cons.mp hy with rfl | hy
          · exact hx
          · exact q y hy
        · exact fun q y hy => q y (List.mem_cons_of_mem _ hy)
theorem take_self {r : List Str} {z : Str} : z ∉ r.take (r.idxOf z) := fun h => by
  obtain ⟨i, hi, e⟩ := List.mem_iff_getElem.mp h
  rw [List.length_take] at hi
  rw [List.getElem_take] at e
  have := List.not_of_lt_findIdx (p := (· == z)) (xs := r) (i := i) (by show i < r.idxOf z; omega)
  rw [e] at this
  simp at this
section
variable {xs : List Str} {rs ts : List (List Str)} {z : Str}
theorem ok_iff (pt : ∀ t ∈ ts, t.Perm xs) {r : List Str} : okB xs ts r z = true ↔ ∃ t ∈ ts, ∀ y ∈ t.take (t.idxOf z), y ∈ r.take (r.idxOf z) := by
  unfold okB
  rw [List.any_eq_true]
  constructor
  · rintro ⟨t, ht, e⟩
    rw [inB_names fun y hy => (pt t ht).mem_iff.mp hy] at e
    exact ⟨t, ht, fun y hy => of_decide_eq_true (List.all_eq_true.mp e y hy)⟩
  · rintro ⟨t, ht, e⟩
    refine ⟨t, ht, ?_⟩
    rw [inB_names fun y hy => (pt t ht).mem_iff.mp hy]
    exact List.all_eq_true.mpr fun y hy => decide_eq_true (e y hy)
/-- a field that parts a row from the others, of the entries that are not ahead of z -/
theorem field_parts (pr : ∀ r ∈ rs, r.Perm xs) (pt : ∀ t ∈ ts, t.Perm xs) {r : List Str} (hr : r ∈ rs) (hz : z ∈ xs) (no : okB xs ts r z = false) {fs : List Str} (ef : ∀ y, y ∈ fs ↔ y ∈ xs ∧ y ∉ r.take (r.idxOf z)) : z ∈ cdsOf fs rs ∧ z ∉ cdsOf fs ts := by
  have zf : z ∈ fs := (ef z).mpr ⟨hz, take_self⟩
  refine ⟨cds_mem.mpr ⟨r, hr, (fst_iff ((pr r hr).mem_iff.mpr hz) zf).mpr fun y hy q => ((ef y).mp q).2 hy⟩, fun h => ?_⟩
  obtain ⟨t, ht, e⟩ := cds_mem.mp h
  have q := (fst_iff ((pt t ht).mem_iff.mpr hz) zf).mp e
  have : okB xs ts r z = true := (ok_iff pt).mpr ⟨t, ht, fun y hy => by
    by_cases h : y ∈ r.take (r.idxOf z)
    · exact h
    · exact absurd ((ef y).mpr ⟨(pt t ht).mem_iff.mp (List.mem_of_mem_take hy), h⟩) (q y hy)⟩
  rw [no] at this
  cases this
theorem bey_mem : z ∈ beyondL xs rs ts ↔ z ∈ xs ∧ ∃ r ∈ rs, okB xs ts r z = false := by
  unfold beyondL
  rw [List.mem_filter]
  refine and_congr Iff.rfl ?_
  rw [Bool.not_eq_true', List.all_eq_false]
  simp only [Bool.not_eq_true]
/-- who is named on some field by these rows and not by those -/
theorem bey_iff (pr : ∀ r ∈ rs, r.Perm xs) (pt : ∀ t ∈ ts, t.Perm xs) : (∃ fs ∈ (subs xs).drop 1, z ∈ cdsOf fs rs ∧ z ∉ cdsOf fs ts) ↔ z ∈ beyondL xs rs ts := by
  rw [bey_mem]
  constructor
  · rintro ⟨fs, hf, h1, h2⟩
    obtain ⟨r, hr, e⟩ := cds_mem.mp h1
    obtain ⟨zr, zf⟩ := fst_mem e
    have hz : z ∈ xs := (pr r hr).mem_iff.mp zr
    refine ⟨hz, r, hr, ?_⟩
    cases q : okB xs ts r z with
    | false => rfl
    | true =>
      obtain ⟨t, ht, sub⟩ := (ok_iff pt).mp q
      refine absurd (cds_mem.mpr ⟨t, ht, (fst_iff ((pt t ht).mem_iff.mpr hz) zf).mpr fun y hy => ?_⟩) h2
      exact (fst_iff zr zf).mp e y (sub y hy)
  · rintro ⟨hz, r, hr, no⟩
    refine ⟨xs.filter fun y => decide (y ∉ r.take (r.idxOf z)), subs_mem List.filter_sublist (List.length_pos_of_mem (List.mem_filter.mpr ⟨hz, decide_eq_true take_self⟩)), ?_⟩
    exact field_parts pr pt hr hz no fun y => by rw [List.mem_filter, decide_eq_true_iff]
/-- nothing is beyond just where every row lets everyone -/
theorem bey_nil (pr : ∀ r ∈ rs, r.Perm xs) : beyondL xs rs ts = [] ↔ withinB xs rs ts = true := by
  unfold withinB
  rw [List.all_eq_true]
  constructor
  · intro h r hr
    refine List.all_eq_true.mpr fun z hz => ?_
    cases q : okB xs ts r z with
    | true => rfl
    | false =>
      have : z ∈ beyondL xs rs ts := bey_mem.mpr ⟨(pr r hr).mem_iff.mp hz, r, hr, q⟩
      rw [h] at this
      cases this
  · intro h
    refine List.eq_nil_iff_forall_not_mem.mpr fun z hz => ?_
    obtain ⟨zx, r, hr, no⟩ := bey_mem.mp hz
    have := List.all_eq_true.mp (h r hr) z ((pr r hr).mem_iff.mpr zx)
    rw [no] at this
    cases this
theorem alike_iff (pr : ∀ r ∈ rs, r.Perm xs) (pt : ∀ t ∈ ts, t.Perm xs) : alikeB xs rs ts = (decide (beyondL xs rs ts = []) && decide (beyondL xs ts rs = [])) := by
  refine Bool.eq_iff_iff.mpr ?_
  rw [Bool.and_eq_true, decide_eq_true_iff, decide_eq_true_iff]
  unfold alikeB
  rw [List.all_eq_true]
  constructor
  · intro h
    constructor
    · refine List.eq_nil_iff_forall_not_mem.mpr fun z hz => ?_
      obtain ⟨zx, r, hr, no⟩ := bey_mem.mp hz
      have := List.all_eq_true.mp (Bool.and_eq_true_iff.mp (h z zx)).1 r hr
      rw [no] at this
      cases this
    · refine List.eq_nil_iff_forall_not_mem.mpr fun z hz => ?_
      obtain ⟨zx, r, hr, no⟩ := bey_mem.mp hz
      have := List.all_eq_true.mp (Bool.and_eq_true_iff.mp (h z zx)).2 r hr
      rw [no] at this
      cases this
  · rintro ⟨h1, h2⟩ z hz
    refine Bool.and_eq_true_iff.mpr ⟨List.all_eq_true.mpr fun r hr => ?_, List.all_eq_true.mpr fun r hr => ?_⟩
    · cases q : okB xs ts r z with
      | true => rfl
      | false =>
        have : z ∈ beyondL xs rs ts := bey_mem.mpr ⟨hz, r, hr, q⟩
        rw [h1] at this
        cases this
    · cases q : okB xs rs r z with
      | true => rfl
      | false =>
        have : z ∈ beyondL xs ts rs := bey_mem.mpr ⟨hz, r, hr, q⟩
        rw [h2] at this
        cases this
end
end G14

set_option maxHeartbeats 8000000
namespace G14
open PySem PySem.Spec PyProof.Rows L2 G1
/-- whether two panels name the same cards on a field -/
def sameC (fs : List Str) (rs ts : List (List Str)) : Bool := (cdsOf fs rs).all (fun z => decide (z ∈ cdsOf fs ts)) && (cdsOf fs ts).all fun z => decide (z ∈ cdsOf fs rs)
theorem sameC_iff {fs : List Str} {rs ts : List (List Str)} : sameC fs rs ts = true ↔ ∀ z, z ∈ cdsOf fs rs ↔ z ∈ cdsOf fs ts := by
  unfold sameC
  rw [Bool.and_eq_true, List.all_eq_true, List.all_eq_true]
  constructor
  · rintro ⟨h1, h2⟩ z
    exact ⟨fun h => of_decide_eq_true (h1 z h), fun h => of_decide_eq_true (h2 z h)⟩
  · intro h
    exact ⟨fun z hz => decide_eq_true ((h z).mp hz), fun z hz => decide_eq_true ((h z).mpr hz)⟩
theorem same_dec {fs c1 c2 : List Str} {rs ts : List (List Str)} (s1 : sortedS c1 = true) (s2 : sortedS c2 = true) (n1 : c1.Nodup) (n2 : c2.Nodup) (m1 : ∀ z, z ∈ c1 ↔ z ∈ cdsOf fs rs) (m2 : ∀ z, z ∈ c2 ↔ z ∈ cdsOf fs ts) : decide (c1 = c2) = sameC fs rs ts := by
  refine Bool.eq_iff_iff.mpr ?_
  rw [decide_eq_true_iff, sameC_iff]
  constructor
  · rintro rfl z
    rw [← m1, m2]
  · intro h
    exact sorted_ext s1 s2 n1 n2 fun z => by rw [m1, m2, h]
theorem sameC_sym {fs : List Str} {rs ts : List (List Str)} : sameC fs rs ts = sameC fs ts rs := by
  refine Bool.eq_iff_iff.mpr ?_
  rw [sameC_iff, sameC_iff]
  exact ⟨fun h z => (h z).symm, fun h z => (h z).symm⟩
theorem mem_fstD2 {fs : List Str} {rs : List (List Str)} (h : ∀ r ∈ rs, ∃ z, fst? fs r = some z) {z : Str} : z ∈ rs.map (fstD fs) ↔ z ∈ cdsOf fs rs := by
  rw [cds_mem, List.mem_map]
  refine ⟨fun ⟨r, hr, e⟩ => ⟨r, hr, ?_⟩, fun ⟨r, hr, e⟩ => ⟨r, hr, fstD_of e⟩⟩
  obtain ⟨y, hy⟩ := h r hr
  rw [fstD_of hy] at e
  rw [hy, e]
end G14

set_option maxHeartbeats 8000000
namespace G14
open PySem PySem.Spec PyProof.Rows L2 G1
/-- the names of a mask -/
def lotM (xs : List Str) (m : Nat) : List Str := xs.filter fun y => m.testBit (xs.idxOf y)
theorem lotM_msk {xs : List Str} {p : Str → Bool} : lotM xs (msk p xs) = xs.filter p := by
  unfold lotM
  refine List.filter_congr fun y hy => ?_
  rw [msk_test, List.getElem?_eq_getElem (List.idxOf_lt_length_of_mem hy), List.getElem_idxOf]
  rfl
theorem bit_ne {i m : Nat} : (Builtin.bitAnd ((2 ^ i : Nat) : Int) (m : Int) != 0) = m.testBit i := by
  rw [band_nat]
  cases e : m.testBit i with
  | false =>
    have z : 2 ^ i &&& m = 0 := Nat.eq_of_testBit_eq fun j => by
      rw [Nat.testBit_and, Nat.testBit_two_pow, Nat.zero_testBit]
      by_cases h : i = j
      · subst h
        rw [e, Bool.and_false]
      · rw [decide_eq_false h, Bool.false_and]
    rw [z]
    rfl
  | true =>
    refine bne_iff_ne.mpr fun h => ?_
    have z : 2 ^ i &&& m = 0 := by omega
    have q := congrArg (fun n => Nat.testBit n i) z
    simp only [Nat.testBit_and, Nat.testBit_two_pow, Nat.zero_testBit, e, decide_true, Bool.and_self] at q
    cases q
def spLotOf : Sp := fun vs H Q _ => ∃ (b : Addr) (m : Nat) (xs : List Str), vs = [.ref b, .int (m : Int)] ∧ H b = some (.dK (dN xs (bitV xs))) ∧ xs.length ≤ 40 ∧
  ∀ (D : Addr) (H' : Hp), Same H H' → H D = none → H' D = some (.lst ((lotM xs m).map V.str)) → Q (.ref D) H'
abbrev ttBit (K : PySem.W.Frag) : TT := fun σ H Q => tOp (rI0 fun i j => .int (Builtin.bitAnd i j)) (tVar 3) (tVar 1) σ H fun x H' => ∃ k, TruV K x H' k ∧ Q k H'
section
variable {P : Program} {w : World} {K : PySem.W.Frag} {mg : Str → Option Value} {base : Heap} {C : Addr}
abbrev sLotOf : Stmt := top 26
abbrev nLotOf : List Str := ["bits", "mask", "name", "bit"]
theorem scLotOf : FnScope nLotOf ["bits", "mask"] (defScope sLotOf) := ⟨rfl, rfl, rfl, by decide +kernel, rfl, by decide +kernel, by decide +kernel⟩
theorem ok_lotOf {f : Addr} {fd : FuncData} (F : FnP K "lot_of" sLotOf f fd) : FnOk P w K mg base CX0 1 f fd ["bits", "mask"] spLotOf := by
  refine okN F scLotOf (fun vs H Q E h => ?_) (fun cdv A outer s H vs Q E hr h => ?_)
  · obtain ⟨_, _, _, rfl, _⟩ := h
    rfl
  · obtain ⟨b, m, xs, rfl, hb, l40, k⟩ := h
    have nd := scLotOf.nd
    refine ⟨_, pss_one (ps_ret (pe_lock (pe_lc (own := [("name", 2), ("bit", 3)]) (g := gTup K 2 (gCons (gName 2) (gCons (gName 3) gNil))) (tt := ttBit K) (te := tVar 2) rfl nd (pi_items (pv 0))
        (blkOk_by (N := nLotOf) (sc := defScope sLotOf) (by decide +kernel)) (fun _ _ _ _ _ => pg_tup (n := 2) (by rfl) (pgs_cons (pg_name (i := 2) scLotOf.nd rfl (Or.inl rfl)) (pgs_cons (pg_name (i := 3) scLotOf.nd rfl (Or.inl rfl)) pgs_nil)))
        (fun _ _ _ _ _ => pts_one (pt_truth (pe_op op_and (pv 3) (pv 1)) (fun _ => rfl))) (fun _ _ _ _ _ => pv 2)))), ?_⟩
    refine ⟨b, _, hb, trivial, fun od => ?_⟩
    have fz : upd H b (.frz od (.dK (dN xs (bitV xs)))) b = some (.frz od (.dK (dN xs (bitV xs)))) := upd_same
    have keep : ∀ (c : Addr) (o : HO), c ≠ b → H c = some o → upd H b (.frz od (.dK (dN xs (bitV xs)))) c = some o := fun c o n e => by rw [upd_ne n]; exact e
    have back : ∀ c : Addr, c ≠ b → upd H b (.frz od (.dK (dN xs (bitV xs)))) c = none → H c = none := fun c n e => by rw [upd_ne n] at e; exact e
    generalize upd H b (.frz od (.dK (dN xs (bitV xs)))) = H5 at fz keep back ⊢
    refine ⟨_, rfl, b, od, dN xs (bitV xs), rfl, fz, fun X nX => ?_⟩
    have nXb : X ≠ b := Ne.symm (ne_of_none fz nX)
    refine lc_it (walk_items (d := b) (o := od) (kvs := dN xs (bitV xs))) (fun i H' => H' X = some (.lst (((xs.take i).filter fun y => m.testBit (xs.idxOf y)).map V.str)) ∧ H' b = some (.frz od (.dK (dN xs (bitV xs)))) ∧ ∀ (c : Addr) (o : HO), c ≠ b → H c = some o → H' c = some o)
      ⟨upd_same, by rw [upd_ne (Ne.symm nXb)]; exact fz, fun c o n e => by rw [upd_ne (ne_of_none (keep c o n e) nX)]; exact keep c o n e⟩ (fun i H' _ h => h.2.1) ?_ ?_
    · rintro i x H6 H7 hi ⟨q1, q2, q3⟩ ⟨T, u, v, rfl, nT, rfl, eu, ev⟩
      dsimp only at eu ev
      have li : i < xs.length := by rw [dN_len] at hi; exact hi
      have ez : xs[i]? = some xs[i] := List.getElem?_eq_getElem li
      unfold dN at eu ev
      rw [List.getElem?_map] at eu ev
      rw [ez] at eu ev
      obtain rfl : V.str xs[i] = u := Option.some.inj eu
      obtain rfl : bitV xs xs[i] = v := Option.some.inj ev
      generalize hz : xs[i] = z at ez ⊢
      have sT := sn nT (o := .tup [.str z, bitV xs z])
      have hT : upd H6 T (.tup [.str z, bitV xs z]) T = some (.tup [.str z, bitV xs z]) := upd_same
      generalize upd H6 T (.tup [.str z, bitV xs z]) = H7 at sT hT ⊢
      have stp : (xs.take (i + 1)).filter (fun y => m.testBit (xs.idxOf y)) = (xs.take i).filter (fun y => m.testBit (xs.idxOf y)) ++ [z].filter (fun y => m.testBit (xs.idxOf y)) := by
        rw [List.take_succ, ez, List.filter_append]
        rfl
      refine ⟨T, _, rfl, SqT.of hT, rfl, _, _, rfl, _, _, rfl, rfl, rfl, _, rfl, _, rfl, _, _, rfl, rfl, m.testBit (xs.idxOf z), bit_ne.symm, ?_⟩
      cases e : m.testBit (xs.idxOf z) with
      | false =>
        refine iteF ⟨?_, sT _ _ q2, fun c o n eo => sT _ _ (q3 c o n eo)⟩
        rw [stp, List.filter_cons_of_neg (by rw [e]; decide), List.filter_nil, List.append_nil]
        exact sT _ _ q1
      | true =>
        refine iteT ⟨_, rfl, _, sT _ _ q1, small1000 ?_, ?_, ?_, fun c o n eo => ?_⟩
        · rw [List.length_map]
          have := List.length_filter_le (fun y => m.testBit (xs.idxOf y)) (xs.take i)
          have := List.length_take_le' i xs
          omega
        · rw [upd_same, stp, List.filter_cons_of_pos (by rw [e]), List.filter_nil, List.map_append]
          rfl
        · rw [upd_ne (Ne.symm nXb)]
          exact sT _ _ q2
        · by_cases qx : c = X
          · rw [qx] at eo
            rw [back X nXb nX] at eo
            cases eo
          · rw [upd_ne qx]
            exact sT _ _ (q3 c o n eo)
    · rintro H6 ⟨q1, q2, q3⟩
      rw [dN_len, List.take_length] at q1
      refine ⟨q2, k X _ (fun c o e => ?_) (back X nXb nX) (by rw [upd_ne nXb]; exact q1)⟩
      by_cases qc : c = b
      · subst qc
        rw [upd_same]
        rw [hb] at e
        exact e
      · rw [upd_ne qc]
        exact q3 c o qc e
end
end G14

set_option maxHeartbeats 8000000
namespace G14
open PySem PySem.Spec PyProof.Rows L2 G1
def partB (ys zs : List Str) : Bool := ys.all fun y => decide (y ∈ zs)
theorem less_part {ys zs : List Str} : decide (less zs ys = []) = partB ys zs := by
  refine Bool.eq_iff_iff.mpr ⟨fun h => ?_, fun h => ?_⟩
  · refine List.all_eq_true.mpr fun y hy => ?_
    have e := of_decide_eq_true h
    refine decide_eq_true ?_
    by_cases q : y ∈ zs
    · exact q
    · have : y ∈ less zs ys := List.mem_filter.mpr ⟨hy, decide_eq_true q⟩
      rw [e] at this
      cases this
  · refine decide_eq_true (List.eq_nil_iff_forall_not_mem.mpr fun y hy => ?_)
    obtain ⟨h1, h2⟩ := List.mem_filter.mp hy
    exact of_decide_eq_true h2 (of_decide_eq_true (List.all_eq_true.mp h y h1))
/-- a list of texts beside a new empty one -/
theorem lists_nil {K : PySem.W.Frag} {H : Hp} {a c : Addr} {zs : List Str} (ha : SqL K H a (zs.map V.str)) (hc : SqL K H c []) : Lists2 K H 0 (.ref a) (.ref c) (decide (zs = [])) := by
  refine ⟨a, c, _, _, rfl, rfl, ha, hc, ?_⟩
  cases zs with
  | nil => exact .inr ⟨rfl, fun _ => true, (fun i x y h => by cases h), by decide⟩
  | cons z zs => exact .inl ⟨(fun h => by cases h), by rw [decide_eq_false (fun h => by cases h)]⟩
def spPart (K : PySem.W.Frag) : Sp := fun vs H Q _ => ∃ (a b : Addr) (ys zs : List Str), vs = [.ref a, .ref b] ∧ H a = some (.lst (ys.map V.str)) ∧ H b = some (.lst (zs.map V.str)) ∧ ys.length ≤ 900 ∧ ∀ H', Same H H' → Q (.bl (partB ys zs)) H'
section
variable {P : Program} {w : World} {K : PySem.W.Frag} {mg : Str → Option Value} {base : Heap} {C : Addr}
end
end G14

set_option maxHeartbeats 4000000
/-! sorted(xs), the items anything that reads as data (lists of texts, pairs, ..): the values themselves in their new order. -/
namespace G1
open PySem PySem.Spec PyProof.Rows L2 PySem.W
abbrev VD := V × PyData
/-- what the sorted items are -/
def sortD (bs : List VD) : List VD := bs.mergeSort (dataLe false fun b => b.2)
theorem sortD_perm (bs : List VD) : (sortD bs).Perm bs := List.mergeSort_perm _ _
theorem sortD_len (bs : List VD) : (sortD bs).length = bs.length := (sortD_perm bs).length_eq
def rSortedD (K : PySem.W.Frag) : List V → Hp → VK → Prop := fun vs H Q => ∃ (a : Addr) (bs : List VD), vs = [V.ref a] ∧ SqL K H a (bs.map (·.1)) ∧ (∀ b ∈ bs, Dp K H b.1 b.2) ∧ AllAlike (bs.map (·.2)) ∧ Sortable (bs.map (·.2)) ∧ bs.length ≤ 1000 ∧ (∀ b ∈ bs, b.2.depth ≤ 20) ∧
  ∀ p, H p = none → Q (.ref p) (upd H p (.lst ((sortD bs).map (·.1))))
theorem each_rel : ∀ {bs : List VD} {us : List Value}, Vals (bs.map (·.1)) us → EachIs (fun v (b : VD) => RelV b.1 v) us bs
  | [], _, h => by
    rw [List.map_nil] at h
    cases h
    exact .nil
  | b :: bs, _, h => by
    rw [List.map_cons] at h
    cases h with
    | cons r t => exact .cons r (each_rel t)
theorem each_vals : ∀ {bs : List VD} {us : List Value}, EachIs (fun v (b : VD) => RelV b.1 v) us bs → Vals (bs.map (·.1)) us
  | _, _, .nil => .nil
  | _, _, .cons r t => .cons r (each_vals t)
theorem each_and {α β : Type} {R S : α → β → Prop} : ∀ {as : List α} {bs : List β}, EachIs R as bs → (∀ a b, b ∈ bs → R a b → S a b) → EachIs S as bs
  | _, _, .nil, _ => .nil
  | _, _, .cons r t, h => .cons (h _ _ List.mem_cons_self r) (each_and t fun a b hb => h a b (List.mem_cons_of_mem _ hb))
section
variable {X : Cx}
theorem cr_sortedD (hu : X.A.units + 22 < cLine) : CallR X (.builtin "sorted") (rSortedD X.K) := by
  intro pins s σ H vs us Q I r h
  obtain ⟨a, bs, rfl, hs, hd, al, so, le, dp, q⟩ := h
  obtain ⟨its, rv, hl, _⟩ := I.list hs
  rw [Vals.ref1 r]
  have e := each_rel rv
  have er : EachIs (fun v (b : VD) => ∃ as, Reads s.heap v b.2 as) its bs := each_and e fun v b hb rb => Dp.reads I b.2 b.1 v (hd b hb) rb
  refine sorted_data (enc := fun b : VD => b.2) hl.isList e er al so (by rw [sizeLine_eq]; omega) (fun b hb => by have := dp b hb; omega) fun out ho eo => ?_
  obtain ⟨ep, he'⟩ := PyProof.Rows.sortedAll_at s.heap its out.toArray
  have hlen : ((sortD bs).map (·.1)).length ≤ sizeLine := by rw [List.length_map, sortD_len, sizeLine_eq]; omega
  exact ⟨.ref _, upd H (s.heap.objs.size + 1) (.lst ((sortD bs).map (·.1))), I.laid (t' := s.toks) (fun _ _ => PyProof.Rows.sortedAll_old) (Nat.le_succ _) ⟨hlen, out, ep, each_vals eo, he'⟩, rfl, q _ (I.hok.fresh (Nat.le_succ _))⟩
end
end G1

set_option maxHeartbeats 8000000
namespace G14
open PySem PySem.Spec PyProof.Rows L2 G1
def dedS (acc : List (List Str)) (r : List Str) : List (List Str) := if r ∈ acc then acc else acc ++ [r]
/-- each row once -/
def ded (rs : List (List Str)) : List (List Str) := rs.foldl dedS []
theorem dedS_mem {acc : List (List Str)} {r m : List Str} : m ∈ dedS acc r ↔ m ∈ acc ∨ m = r := by
  unfold dedS
  split
  · rename_i h
    exact ⟨Or.inl, fun q => q.elim id fun e => e ▸ h⟩
  · rw [List.mem_append, List.mem_singleton]
theorem ded_fold : ∀ {rs acc : List (List Str)} {m : List Str}, m ∈ rs.foldl dedS acc ↔ m ∈ acc ∨ m ∈ rs
  | [], acc, m => by simp
  | r :: rs, acc, m => by
    show m ∈ rs.foldl dedS (dedS acc r) ↔ _
    rw [ded_fold, dedS_mem, List.mem_cons, or_assoc]
theorem ded_mem {rs : List (List Str)} {m : List Str} : m ∈ ded rs ↔ m ∈ rs := by
  unfold ded
  rw [ded_fold]
  simp
theorem ded_len : ∀ (rs acc : List (List Str)), (rs.foldl dedS acc).length ≤ acc.length + rs.length
  | [], acc => by simp
  | r :: rs, acc => by
    have h := ded_len rs (dedS acc r)
    have h2 : (dedS acc r).length ≤ acc.length + 1 := by
      unfold dedS
      split
      · omega
      · rw [List.length_append]
        simp
    show (rs.foldl dedS (dedS acc r)).length ≤ _
    rw [List.length_cons]
    omega
theorem ded_le {rs : List (List Str)} : (ded rs).length ≤ rs.length := by
  have := ded_len rs []
  rw [List.length_nil] at this
  unfold ded
  omega
theorem ded_step {rs : List (List Str)} {i : Nat} {r : List Str} (h : rs[i]? = some r) : ded (rs.take (i + 1)) = dedS (ded (rs.take i)) r := by
  unfold ded
  rw [List.take_succ, h, List.foldl_append]
  rfl
/-- those no other of them is a part of -/
def smallB (ps : List (List Str)) (l : List Str) : Bool := decide ((ps.filter fun o => !decide (o = l) && partB o l) = [])
def minR (ps : List (List Str)) : List (List Str) := ps.filter (smallB ps)
theorem sub_len : ∀ {a b : List Str}, a.Nodup → (∀ x ∈ a, x ∈ b) → a.length ≤ b.length
  | [], _, _, _ => Nat.zero_le _
  | x :: a, b, nd, h => by
    rw [List.nodup_cons] at nd
    have hx := h x List.mem_cons_self
    have q := sub_len (a := a) (b := b.erase x) nd.2 fun y hy => by
      have ne : y ≠ x := fun e => nd.1 (e ▸ hy)
      exact (List.mem_erase_of_ne ne).mpr (h y (List.mem_cons_of_mem _ hy))
    rw [List.length_erase_of_mem hx] at q
    have := List.length_pos_of_mem hx
    rw [List.length_cons]
    omega
theorem part_mem {a b : List Str} (h : partB a b = true) : ∀ x ∈ a, x ∈ b := fun x hx => of_decide_eq_true (List.all_eq_true.mp h x hx)
theorem part_lt {a b : List Str} (na : a.Nodup) (nb : b.Nodup) (sa : sortedS a = true) (sb : sortedS b = true) (h : partB a b = true) (ne : a ≠ b) : a.length < b.length := by
  refine Nat.lt_of_not_le fun le => ne ?_
  have m1 := part_mem h
  have m2 : ∀ y ∈ b, y ∈ a := fun y hy => by
    by_cases q : y ∈ a
    · exact q
    · have := sub_len (a := y :: a) (b := b) (List.nodup_cons.mpr ⟨q, na⟩) fun x hx => by
        rcases List.mem_cons.mp hx with e | e
        · exact e ▸ hy
        · exact m1 x e
      rw [List.length_cons] at this
      omega
  exact sorted_uniq sa sb ((List.perm_ext_iff_of_nodup na nb).mpr fun z => ⟨m1 z, m2 z⟩)
theorem part_self {a : List Str} : partB a a = true := List.all_eq_true.mpr fun x hx => decide_eq_true hx
theorem part_trans {a b c : List Str} (h1 : partB a b = true) (h2 : partB b c = true) : partB a c = true := List.all_eq_true.mpr fun x hx => decide_eq_true (part_mem h2 x (part_mem h1 x hx))
theorem minR_ex {ps : List (List Str)} (h : ∀ r ∈ ps, r.Nodup ∧ sortedS r = true) : ∀ (n : Nat) (r : List Str), r ∈ ps → r.length < n → ∃ o ∈ minR ps, partB o r = true
  | 0, _, _, q => absurd q (Nat.not_lt_zero _)
  | n + 1, r, hr, q => by
    cases e : smallB ps r with
    | true => exact ⟨r, List.mem_filter.mpr ⟨hr, e⟩, part_self⟩
    | false =>
      unfold smallB at e
      obtain ⟨o, ho⟩ := List.exists_mem_of_ne_nil _ (of_decide_eq_false e)
      obtain ⟨h1, h2⟩ := List.mem_filter.mp ho
      rw [Bool.and_eq_true] at h2
      have ne : o ≠ r := fun e => by rw [e, decide_eq_true rfl] at h2; exact absurd h2.1 (by decide)
      have lt := part_lt (h o h1).1 (h r hr).1 (h o h1).2 (h r hr).2 h2.2 ne
      obtain ⟨z, z1, z2⟩ := minR_ex h n o h1 (by omega)
      exact ⟨z, z1, part_trans z2 h2.2⟩
theorem rows_of {H : Hp} : ∀ {qs : List (Addr × List Str)}, (∀ q ∈ qs, H q.1 = some (.lst (q.2.map V.str))) → RowsAt H (qs.map (·.1)) (qs.map (·.2))
  | [], _ => .nil
  | q :: qs, h => .cons (h q List.mem_cons_self) (rows_of fun p hp => h p (List.mem_cons_of_mem _ hp))
theorem of_rows {H : Hp} {as : List Addr} {rs : List (List Str)} (h : RowsAt H as rs) : ∀ q ∈ as.zip rs, H q.1 = some (.lst (q.2.map V.str)) := by
  induction h with
  | nil => intro q hq; cases hq
  | cons e _ ih =>
    intro q hq
    rw [List.zip_cons_cons] at hq
    rcases List.mem_cons.mp hq with r | r
    · rw [r]
      exact e
    · exact ih q r
theorem depth_rd {r : List Str} : (rd r).depth ≤ 20 := by
  have : ∀ r : List Str, PyData.depthAll (r.map PyData.str) = 0 := fun r => by
    induction r with
    | nil => simp [PyData.depthAll]
    | cons z r ih => simp [PyData.depthAll, PyData.depth, ih]
  unfold rd
  simp [PyData.depth, this]
theorem alike_rd (r r' : List Str) : PySem.W.alike (rd r) (rd r') = true := by
  have : ∀ r r' : List Str, PySem.W.alikeAll (r.map PyData.str) (r'.map PyData.str) = true := fun r => by
    induction r with
    | nil => intro r'; cases r' <;> simp [PySem.W.alikeAll]
    | cons z r ih =>
      intro r'
      cases r' with
      | nil => simp [PySem.W.alikeAll]
      | cons z' r' => simp [PySem.W.alikeAll, PySem.W.alike, ih r']
  unfold rd
  simp [PySem.W.alike, this]
/-- sorted(rows) -/
theorem sort_rows {K : PySem.W.Frag} {H : Hp} {a : Addr} {as : List Addr} {rs : List (List Str)} {Q : VK} (ha : H a = some (.lst (as.map V.ref))) (hr : RowsAt H as rs) (le : rs.length ≤ 900)
    (k : ∀ (p : Addr) (ls : List Addr) (ts : List (List Str)), H p = none → RowsAt H ls ts → ts.Perm rs → (∀ c ∈ ls, c ∈ as) → Q (.ref p) (upd H p (.lst (ls.map V.ref)))) : rSortedD K [.ref a] H Q := by
  have hz := of_rows hr
  have ln := hr.len
  have e1 : (as.zip rs).map (·.1) = as := List.map_fst_zip (by omega)
  have e2 : (as.zip rs).map (·.2) = rs := List.map_snd_zip (by omega)
  let enc : Addr × List Str → VD := fun p => (V.ref p.1, rd p.2)
  refine ⟨a, (as.zip rs).map enc, rfl, ?_, fun b hb => ?_, ?_, ?_, by rw [List.length_map, List.length_zip]; omega, fun b hb => ?_, fun p np => ?_⟩
  · rw [List.map_map]
    have : (as.zip rs).map ((·.1) ∘ enc) = as.map V.ref := by
      conv => rhs; rw [← e1, List.map_map]
      rfl
    rw [this]
    exact SqL.of ha
  · obtain ⟨q, hq, rfl⟩ := List.mem_map.mp hb
    exact dp_row (hz q hq)
  · intro d hd d' hd'
    rw [List.map_map] at hd hd'
    obtain ⟨q, _, rfl⟩ := List.mem_map.mp hd
    obtain ⟨q', _, rfl⟩ := List.mem_map.mp hd'
    exact alike_rd _ _
  · refine .inr fun d hd => ?_
    rw [List.map_map] at hd
    obtain ⟨q, _, rfl⟩ := List.mem_map.mp hd
    exact ⟨(fun e => nomatch (show rd q.2 = .none from e)), (fun xs e => nomatch (show rd q.2 = .tuple xs from e))⟩
  · obtain ⟨q, _, rfl⟩ := List.mem_map.mp hb
    exact depth_rd
  · have q := List.map_mergeSort (r := fun x y => PySem.W.dataLe false (fun b : VD => b.2) (enc x) (enc y)) (s := PySem.W.dataLe false fun b : VD => b.2) (f := enc) (l := as.zip rs) (fun _ _ _ _ => rfl)
    unfold sortD
    rw [← q, List.map_map]
    generalize hqs : (as.zip rs).mergeSort (fun x y => PySem.W.dataLe false (fun b : VD => b.2) (enc x) (enc y)) = qs
    have pq : qs.Perm (as.zip rs) := hqs ▸ List.mergeSort_perm _ _
    have e3 : qs.map ((·.1) ∘ enc) = (qs.map (·.1)).map V.ref := by
      rw [List.map_map]
      rfl
    rw [e3]
    refine k p _ (qs.map (·.2)) np (rows_of fun q hq => hz q (pq.mem_iff.mp hq)) ?_ fun c hc => ?_
    · have := pq.map (·.2)
      rwa [e2] at this
    · have := (pq.map (·.1)).mem_iff.mp hc
      rwa [e1] at this
end G14

set_option maxHeartbeats 8000000
namespace G14
open PySem PySem.Spec PyProof.Rows L2 G1
/-- lists of texts in their order -/
def leRow (a b : List Str) : Bool := PySem.W.dataLe false (fun d : PyData => d) (rd a) (rd b)
def sortR (rs : List (List Str)) : List (List Str) := rs.mergeSort leRow
theorem sortR_perm {rs : List (List Str)} : (sortR rs).Perm rs := List.mergeSort_perm _ _
/-- sorted(rows): always the same rows in the same order -/
theorem sort_rows2 {K : PySem.W.Frag} {H : Hp} {a : Addr} {as : List Addr} {rs : List (List Str)} {Q : VK} (ha : H a = some (.lst (as.map V.ref))) (hr : RowsAt H as rs) (le : rs.length ≤ 900)
    (k : ∀ (p : Addr) (ls : List Addr), H p = none → RowsAt H ls (sortR rs) → (∀ c ∈ ls, c ∈ as) → Q (.ref p) (upd H p (.lst (ls.map V.ref)))) : rSortedD K [.ref a] H Q := by
  have hz := of_rows hr
  have ln := hr.len
  have e1 : (as.zip rs).map (·.1) = as := List.map_fst_zip (by omega)
  have e2 : (as.zip rs).map (·.2) = rs := List.map_snd_zip (by omega)
  let enc : Addr × List Str → VD := fun p => (V.ref p.1, rd p.2)
  refine ⟨a, (as.zip rs).map enc, rfl, ?_, fun b hb => ?_, ?_, ?_, by rw [List.length_map, List.length_zip]; omega, fun b hb => ?_, fun p np => ?_⟩
  · rw [List.map_map]
    have : (as.zip rs).map ((·.1) ∘ enc) = as.map V.ref := by
      conv => rhs; rw [← e1, List.map_map]
      rfl
    rw [this]
    exact SqL.of ha
  · obtain ⟨q, hq, rfl⟩ := List.mem_map.mp hb
    exact dp_row (hz q hq)
  · intro d hd d' hd'
    rw [List.map_map] at hd hd'
    obtain ⟨q, _, rfl⟩ := List.mem_map.mp hd
    obtain ⟨q', _, rfl⟩ := List.mem_map.mp hd'
    exact alike_rd _ _
  · refine .inr fun d hd => ?_
    rw [List.map_map] at hd
    obtain ⟨q, _, rfl⟩ := List.mem_map.mp hd
    exact ⟨(fun e => nomatch (show rd q.2 = .none from e)), (fun xs e => nomatch (show rd q.2 = .tuple xs from e))⟩
  · obtain ⟨q, _, rfl⟩ := List.mem_map.mp hb
    exact depth_rd
  · have q := List.map_mergeSort (r := fun x y => PySem.W.dataLe false (fun b : VD => b.2) (enc x) (enc y)) (s := PySem.W.dataLe false fun b : VD => b.2) (f := enc) (l := as.zip rs) (fun _ _ _ _ => rfl)
    have q2 := List.map_mergeSort (r := fun x y => PySem.W.dataLe false (fun b : VD => b.2) (enc x) (enc y)) (s := leRow) (f := fun p : Addr × List Str => p.2) (l := as.zip rs) (fun _ _ _ _ => rfl)
    unfold sortD
    rw [← q, List.map_map]
    rw [e2] at q2
    generalize hqs : (as.zip rs).mergeSort (fun x y => PySem.W.dataLe false (fun b : VD => b.2) (enc x) (enc y)) = qs at q2
    have pq : qs.Perm (as.zip rs) := hqs ▸ List.mergeSort_perm _ _
    have e3 : qs.map ((·.1) ∘ enc) = (qs.map (·.1)).map V.ref := by
      rw [List.map_map]
      rfl
    rw [e3]
    have rws := rows_of (H := H) (qs := qs) fun q hq => hz q (pq.mem_iff.mp hq)
    rw [q2] at rws
    refine k p _ np rws fun c hc => ?_
    have := (pq.map (·.1)).mem_iff.mp hc
    rwa [e1] at this
def spSLots (K : PySem.W.Frag) : Sp := fun vs H Q _ => ∃ (b l : Addr) (xs : List Str) (ms : List Nat), vs = [.ref b, .ref l] ∧ H b = some (.dK (dN xs (bitV xs))) ∧ H l = some (.lst (mskV ms)) ∧ xs.length ≤ 40 ∧ ms.length ≤ 60 ∧
  ∀ (D : Addr) (ls : List Addr) (H' : Hp), Same H H' → H D = none → H' D = some (.lst (ls.map V.ref)) → RowsAt H' ls (sortR (ms.map (lotM xs))) → (∀ c ∈ ls, H c = none) → Q (.ref D) H'
def spLOf (C : Addr) : Sp := fun vs H Q _ => ∃ (a : Addr) (z : Str) (xs : List Str) (rs : List (List Str)), vs = [.ref a, .str z] ∧ PanF H C a xs rs ∧ Rw xs rs ∧ z ∈ xs ∧
  ∀ (D : Addr) (zs : List Nat) (H' : Hp), Same H H' → H D = none → LeastOf xs rs z zs → zs.length ≤ rs.length → H' D = some (.lst (mskV zs)) → Q (.ref D) H'
/-- the least lots of an entry, in their order -/
def LotsOf (xs : List Str) (rs : List (List Str)) (z : Str) (lots : List (List Str)) : Prop := ∃ zs, LeastOf xs rs z zs ∧ zs.length ≤ rs.length ∧ lots = sortR (zs.map (lotM xs))
theorem lots_uniq {xs : List Str} {rs : List (List Str)} {z : Str} {l1 l2 : List (List Str)} (h : LotsOf xs rs z l1) (g : LotsOf xs rs z l2) : l1 = l2 := by
  obtain ⟨z1, a1, _, rfl⟩ := h
  obtain ⟨z2, b1, _, rfl⟩ := g
  rw [least_uniq a1 b1]
def spLLots (C : Addr) : Sp := fun vs H Q _ => ∃ (a : Addr) (z : Str) (xs : List Str) (rs : List (List Str)), vs = [.ref a, .str z] ∧ PanF H C a xs rs ∧ Rw xs rs ∧ z ∈ xs ∧
  ∀ (D : Addr) (ls : List Addr) (lots : List (List Str)) (H' : Hp), Same H H' → H D = none → LotsOf xs rs z lots → H' D = some (.lst (ls.map V.ref)) → RowsAt H' ls lots → (∀ c ∈ ls, H c = none) → Q (.ref D) H'
section
variable {P : Program} {w : World} {K : PySem.W.Frag} {mg : Str → Option Value} {base : Heap} {C : Addr}
abbrev sSLots : Stmt := top 44
abbrev nSLots : List Str := ["bits", "masks", "mask"]
theorem scSLots : FnScope nSLots ["bits", "masks"] (defScope sSLots) := ⟨rfl, rfl, rfl, by decide +kernel, rfl, by decide +kernel, by decide +kernel⟩
theorem ok_sLots {f : Addr} {fd : FuncData} (F : FnP K "sorted_lots" sSLots f fd) (LP : LibP mg) (DL : Df P w K mg base 1 "lot_of" sLotOf ["bits", "mask"] spLotOf) : FnOk P w K mg base CX0 2 f fd ["bits", "masks"] (spSLots K) := by
  refine okN F scSLots (fun vs H Q E h => ?_) (fun cdv A outer s H vs Q E hr h => ?_)
  · obtain ⟨_, _, _, _, rfl, _⟩ := h
    rfl
  · obtain ⟨b, l, xs, ms, rfl, hb, hl, l40, l60, k⟩ := h
    have nd := scSLots.nd
    have hun := hr.un
    have hu22 : (A.deeper (envOfC "sorted_lots" (defScope sSLots) s.heap.objs.size f cdv)).units + 22 < cLine := by omega
    refine ⟨_, pss_one (ps_ret (pe_callB (cr_sortedD hu22) (by rfl) LP.sorted (by decide +kernel) (pa_cons
      (pe_lc (own := [("mask", 2)]) (g := gName 2) (tt := tYes) (te := tCall spLotOf [] E0 (tCons (tVar 0) (tCons (tVar 2) tNil))) rfl nd (pi_list (pv 1))
        (blkOk_by (N := nSLots) (sc := defScope sSLots) (by decide +kernel)) (fun _ _ _ _ _ => pg_name (i := 2) scSLots.nd rfl (Or.inl rfl)) (fun _ _ _ _ _ => pts_nil)
        (fun _ _ _ _ _ => pe_df DL hr (by rfl) (pa_cons (pv 0) (pa_cons (pv 2) pa_nil)))) pa_nil))), ?_⟩
    refine ⟨_, rfl, l, rfl, ⟨_, SqL.of hl⟩, fun D nD => lc_list (K := K) (a := l) (xs := mskV ms) (fun i H' => ∃ cs : List Addr, H' D = some (.lst (cs.map V.ref)) ∧ RowsAt H' cs ((ms.take i).map (lotM xs)) ∧ (∀ c ∈ cs, H c = none ∧ c ≠ D) ∧ Same H H')
      ⟨[], upd_same, .nil, (fun c hc => nomatch hc), sn nD⟩ (fun i H' _ h => by obtain ⟨_, _, _, _, h⟩ := h; exact SqL.of (h _ _ hl)) ?_ ?_⟩
    · rintro i y H1 hi ⟨cs, q1, q2, q3, q4⟩
      unfold mskV at hi
      rw [List.getElem?_map] at hi
      obtain ⟨m, hm, rfl⟩ := Option.map_eq_some_iff.mp hi
      refine ⟨rfl, _, rfl, _, rfl, b, m, xs, rfl, q4 _ _ hb, l40, fun X H2 s2 nX hX => ?_⟩
      have nXD : X ≠ D := Ne.symm (ne_of_none q1 nX)
      refine ⟨_, s2 _ _ q1, small1000 ?_, cs ++ [X], by rw [upd_same, List.map_append]; rfl, ?_, fun c hc => ?_, fun c o e => ?_⟩
      · rw [List.length_map, q2.len, List.length_map, List.length_take]
        omega
      · rw [List.take_succ, hm, List.map_append]
        exact RowsAt.snoc ((q2.same s2).keep fun c hc o e => by rw [upd_ne (q3 c hc).2]; exact e) (by rw [upd_ne nXD]; exact hX)
      · rcases List.mem_append.mp hc with h | h
        · exact q3 c h
        · rw [List.mem_singleton.mp h]
          exact ⟨q4.free nX, nXD⟩
      · rw [upd_ne (ne_of_none e nD)]
        exact s2 _ _ (q4 _ _ e)
    · rintro H1 ⟨cs, q1, q2, q3, q4⟩
      have el : (mskV ms).length = ms.length := List.length_map _
      rw [el, List.take_length] at q2
      delta tNil
      dsimp (config := { proj := false, iota := false }) only []
      refine sort_rows2 q1 q2 (by rw [List.length_map]; omega) fun p ls np rws sub => ?_
      exact k p ls _ (q4.trans (sn np)) (q4.free np) upd_same (rws.same (sn np)) fun c hc => (q3 c (sub c hc)).1
abbrev sLOf : Stmt := top 43
abbrev nLOf : List Str := ["panel", "entry", "steward"]
theorem scLOf : FnScope nLOf ["panel", "entry"] (defScope sLOf) := ⟨rfl, rfl, rfl, by decide +kernel, rfl, by decide +kernel, by decide +kernel⟩
theorem ok_lOf {f : Addr} {fd : FuncData} (F : FnP K "least_of" sLOf f fd) (DA : Df P w K mg base 2 "ahead_masks" sAMs ["panel"] (spAMs C)) (DL : Df P w K mg base 2 "least_masks" sLeast ["masks"] (spLeast K)) : FnOk P w K mg base CX0 3 f fd ["panel", "entry"] (spLOf C) := by
  refine okN F scLOf (fun vs H Q E h => ?_) (fun cdv A outer s H vs Q E hr h => ?_)
  · obtain ⟨_, _, _, _, rfl, _⟩ := h
    rfl
  · obtain ⟨a, z, xs, rs, rfl, pan, g0, hz, k⟩ := h
    have nd := scLOf.nd
    have hun := hr.un
    have hu1 : (A.deeper (envOfC "least_of" (defScope sLOf) s.heap.objs.size f cdv)).units + 1 < cLine := by omega
    refine ⟨_, pss_one (ps_ret (pe_df DL hr (by rfl) (pa_cons
      (pe_lc (own := [("steward", 2)]) (g := gName 2) (tt := tYes) (te := tDGet (tVar 2) (tVar 1)) rfl nd (pi_list (pe_df DA hr (by rfl) (pa_cons (pv 0) pa_nil)))
        (blkOk_by (N := nLOf) (sc := defScope sLOf) (by decide +kernel)) (fun _ _ _ _ _ => pg_name (i := 2) scLOf.nd rfl (Or.inl rfl)) (fun _ _ _ _ _ => pts_nil)
        (fun _ _ _ _ _ => pe_dget hu1 (pv 2) (pv 1) (fun _ _ => rfl))) pa_nil))), ?_⟩
    refine ⟨_, rfl, a, xs, rs, rfl, pan, g0, fun SD ds H1 s1 nSD hSD hds _ => ?_⟩
    have l60 := g0.l60
    refine ⟨SD, rfl, ⟨_, SqL.of hSD⟩, fun M nM => lc_list (K := K) (a := SD) (xs := ds.map V.ref) (fun j H' => H' M = some (.lst (mskV ((rs.take j).map fun r => aheadM xs r z))) ∧ Same H1 H') ⟨upd_same, sn nM⟩ (fun j H' _ h => SqL.of (h.2 _ _ hSD)) ?_ ?_⟩
    · rintro j y H4 hj ⟨q1, q2⟩
      rw [List.getElem?_map] at hj
      obtain ⟨d, hd, rfl⟩ := Option.map_eq_some_iff.mp hj
      obtain ⟨r, o, hr1, hr2, rfl⟩ := (hds.same q2).at hd
      have zr : z ∈ r := (g0.pr r (List.mem_of_getElem? hr1)).mem_iff.mpr hz
      refine ⟨rfl, _, rfl, _, rfl, d, _, rfl, dN_get hr2 zr, _, q1, small1000 (by unfold mskV; rw [List.length_map, List.length_map, List.length_take]; omega), ?_, fun b o e => ?_⟩
      · rw [upd_same, List.take_succ, hr1, List.map_append]
        unfold mskV
        rw [List.map_append]
        rfl
      · rw [upd_ne (ne_of_none e nM)]
        exact q2 _ _ e
    · rintro H4 ⟨q1, q2⟩
      rw [List.length_map, hds.len, List.take_length] at q1
      refine ⟨M, _, rfl, q1, by rw [List.length_map]; omega, fun Lx ys H5 s5 nL so ndy memy ley hL => ?_⟩
      rw [List.length_map] at ley
      have s15 := s1.trans (q2.trans s5)
      have ll := leastM_len ys []
      rw [List.length_nil] at ll
      exact k Lx (leastM ys) H5 s15 ((s1.trans q2).free nL) ⟨ys, so, ndy, memy, ley, rfl⟩ (show (ys.foldl leastS []).length ≤ _ by omega) hL
abbrev sLLots : Stmt := top 45
theorem scLLots : FnScope ["panel", "entry"] ["panel", "entry"] (defScope sLLots) := ⟨rfl, rfl, rfl, by decide +kernel, rfl, by decide +kernel, by decide +kernel⟩
theorem ok_lLots {f : Addr} {fd : FuncData} (F : FnP K "least_lots" sLLots f fd) (N : PanP P w K mg base C) (DP : Df P w K mg base 1 "check_panel" sChkP ["panel"] (spChkP C)) (DN : Df P w K mg base 1 "check_entry" sChkN ["entries", "entry"] (spChkN K)) (DB : Df P w K mg base 1 "bits_of" sBits ["entries"] spBits)
    (DS : Df P w K mg base 2 "sorted_lots" sSLots ["bits", "masks"] (spSLots K)) (DO : Df P w K mg base 3 "least_of" sLOf ["panel", "entry"] (spLOf C)) : FnOk P w K mg base CX0 4 f fd ["panel", "entry"] (spLLots C) := by
  refine okN F scLLots (fun vs H Q E h => ?_) (fun cdv A outer s H vs Q E hr h => ?_)
  · obtain ⟨_, _, _, _, rfl, _⟩ := h
    rfl
  · obtain ⟨a, z, xs, rs, rfl, pan, g0, hz, k⟩ := h
    obtain ⟨dx, gs, fr1, fr2, fr3, fr4⟩ := id pan.fre
    have r1 : Room 1 (A.deeper (envOfC "least_lots" (defScope sLLots) s.heap.objs.size f cdv)) := hr.mono (by decide)
    have r2 : Room 2 (A.deeper (envOfC "least_lots" (defScope sLLots) s.heap.objs.size f cdv)) := hr.mono (by decide)
    refine ⟨_, pss_cons (ps_expr (pe_df DP r1 (by rfl) (pa_cons (pv 0) pa_nil)))
      (pss_cons (ps_expr (pe_df DN r1 (by rfl) (pa_cons (pe_mt (pv 0) N.cls N.en r1) (pa_cons (pv 1) pa_nil))))
      (pss_one (ps_ret (pe_df DS r2 (by rfl) (pa_cons (pe_df DB r1 (by rfl) (pa_cons (pe_mt (pv 0) N.cls N.en r1) pa_nil)) (pa_cons (pe_df DO hr (by rfl) (pa_cons (pv 0) (pa_cons (pv 1) pa_nil))) pa_nil)))))), ?_⟩
    refine ⟨_, rfl, a, dx, gs, rfl, fr1, ?_⟩
    refine ⟨_, rfl, a, dx, gs, rfl, fr1, fr2, a, xs, rs, rfl, pan.at_, fun D2 H3 s3 nD2 hD2 => ⟨_, rfl, D2, xs, z, rfl, SqL.of hD2, hz, ?_⟩⟩
    refine ⟨_, rfl, a, dx, gs, rfl, s3 _ _ fr1, fr2, a, xs, rs, rfl, pan.at_.same s3, fun D3 H4 s4 nD3 hD3 => ?_⟩
    refine ⟨D3, xs, rfl, hD3, g0.nd, g0.le, fun B H5 s5 nB hB => ?_⟩
    have s35 := s3.trans (s4.trans s5)
    refine ⟨_, rfl, _, rfl, a, z, xs, rs, rfl, pan.same s35, g0, hz, fun M zs H6 s6 nM lo lz hM => ?_⟩
    have s36 := s35.trans s6
    have l60 := g0.l60
    exact ⟨B, M, xs, zs, rfl, s6 _ _ hB, hM, g0.le, by omega, fun D ls H7 s7 nD hD rws fr => k D ls _ H7 (s36.trans s7) (s36.free nD) ⟨zs, lo, lz, rfl⟩ hD rws fun c hc => s36.free (fr c hc)⟩
end
end G14

set_option maxHeartbeats 8000000
namespace G14
open PySem PySem.Spec PyProof.Rows L2 G1
/-- a step of the field: one more of a lot that it does not meet -/
def fbS (ps : List Str) (fd lot : List Str) : List Str := if lot.any (fun y => decide (y ∈ fd)) = true then fd else fd ++ (less ps lot).take 1
def fbL (ps : List Str) (z : Str) (lots : List (List Str)) : List Str := lots.foldl (fbS ps) [z]
theorem fbL_len {ps : List Str} : ∀ {lots : List (List Str)} {fd : List Str}, (lots.foldl (fbS ps) fd).length ≤ fd.length + lots.length
  | [], fd => by simp
  | l :: ls, fd => by
    show (ls.foldl (fbS ps) (fbS ps fd l)).length ≤ _
    have h := fbL_len (ps := ps) (lots := ls) (fd := fbS ps fd l)
    have q : (fbS ps fd l).length ≤ fd.length + 1 := by
      unfold fbS
      split
      · omega
      · rw [List.length_append, List.length_take]
        omega
    rw [List.length_cons]
    omega
def spFB (C : Addr) : Sp := fun vs H Q _ => ∃ (a b : Addr) (i : Nat) (z : Str) (xs : List Str) (rs ts : List (List Str)) (r : List Str), vs = [.ref a, .ref b, .int (i : Int), .str z] ∧ PanF H C a xs rs ∧ PanF H C b xs ts ∧ Rw xs rs ∧ Rw xs ts ∧ rs[i]? = some r ∧ z ∈ xs ∧
  ∀ (D : Addr) (us : List Str) (lots : List (List Str)) (H' : Hp), Same H H' → H D = none → LotsOf xs ts z lots → us.Perm (fbL (r.take (r.idxOf z)) z lots) → sortedS us = true → H' D = some (.lst (us.map V.str)) → Q (.ref D) H'
theorem lot_len {xs : List Str} {rs : List (List Str)} {z : Str} {lots : List (List Str)} (h : LotsOf xs rs z lots) : lots.length ≤ rs.length ∧ ∀ l ∈ lots, l.Sublist xs := by
  obtain ⟨zs, _, lz, rfl⟩ := h
  refine ⟨by rw [sortR_perm.length_eq, List.length_map]; exact lz, fun l hl => ?_⟩
  obtain ⟨m, _, rfl⟩ := List.mem_map.mp (sortR_perm.mem_iff.mp hl)
  exact List.filter_sublist
section
variable {P : Program} {w : World} {K : PySem.W.Frag} {mg : Str → Option Value} {base : Heap} {C : Addr}
abbrev sFB : Stmt := top 55
abbrev nFB : List Str := ["one", "other", "at", "entry", "passed", "field", "lot", "name"]
theorem scFB : FnScope nFB ["one", "other", "at", "entry"] (defScope sFB) := ⟨rfl, rfl, rfl, by decide +kernel, rfl, by decide +kernel, by decide +kernel⟩
theorem ok_fB {f : Addr} {fd : FuncData} (F : FnP K "field_beyond" sFB f fd) (LP : LibP mg) (la : mg "any" = none) (DA : Df P w K mg base 3 "ahead" sAhead ["panel", "at", "entry"] (spAhead C)) (DL : Df P w K mg base 4 "least_lots" sLLots ["panel", "entry"] (spLLots C)) :
    FnOk P w K mg base CX0 5 f fd ["one", "other", "at", "entry"] (spFB C) := by
  refine okN F scFB (fun vs H Q E h => ?_) (fun cdv A outer s H vs Q E hr h => ?_)
  · obtain ⟨_, _, _, _, _, _, _, _, rfl, _⟩ := h
    rfl
  · obtain ⟨a, b, i, z, xs, rs, ts, r, rfl, pa, pb, wa, wb, er, hz, k⟩ := h
    have nd := scFB.nd
    have r3 : Room 3 (A.deeper (envOfC "field_beyond" (defScope sFB) s.heap.objs.size f cdv)) := hr.mono (by decide)
    refine ⟨_, pss_cons (ps_set (i := 4) nd rfl (Or.inr rfl) (pe_df DA r3 (by rfl) (pa_cons (pv 0) (pa_cons (pv 2) (pa_cons (pv 3) pa_nil)))))
      (pss_cons (ps_set (i := 5) nd rfl (Or.inr rfl) (pe_lst (pa_cons (pv 3) pa_nil)))
      (pss_cons (ps_for PassesOwn.never rfl (pi_list (pe_df DL hr (by rfl) (pa_cons (pv 1) (pa_cons (pv 3) pa_nil)))) (pg_name (i := 6) nd rfl (Or.inl rfl))
        (pss_one (ps_if (pt_not (pt_val (pe_callB (cr_any rfl) (by rfl) la (by decide +kernel) (pa_cons
            (pe_lc (own := [("name", 7)]) (g := gName 7) (tt := tYes) (te := tOp (rIn K false) (tVar 7) (tVar 5)) rfl nd (pi_list (pv 6))
              (blkOk_by (N := nFB) (sc := defScope sFB) (by decide +kernel)) (fun _ _ _ _ _ => pg_name (i := 7) scFB.nd rfl (Or.inl rfl)) (fun _ _ _ _ _ => pts_nil) (fun _ _ _ _ _ => pe_cmpR op_in_seq (pv 7) (pv 5) (by rfl))) pa_nil))))
          (pss_one (ps_set (i := 5) nd rfl (Or.inr rfl) (pe_op op_cat (pv 5) (pe_slice sl_list
            (pe_lc (own := [("name", 7)]) (g := gName 7) (tt := tTest (tOp (rIn K true) (tVar 7) (tVar 4))) (te := tVar 7) rfl nd (pi_list (pv 6))
              (blkOk_by (N := nFB) (sc := defScope sFB) (by decide +kernel)) (fun _ _ _ _ _ => pg_name (i := 7) scFB.nd rfl (Or.inl rfl)) (fun _ _ _ _ _ => pts_one (pt_cmpR op_notIn_seq (pv 7) (pv 4) (by rfl))) (fun _ _ _ _ _ => pv 7)) po_none (po_some pe_int))))) pss_nil)))
      (pss_one (ps_ret (pe_callB cr_sortedS (by rfl) LP.sorted (by decide +kernel) (pa_cons (pv 5) pa_nil)))))), ?_⟩
    have pr := wa.pr r (List.mem_of_getElem? er)
    have lr := pr.length_eq
    have l40 := wa.le
    refine ⟨_, rfl, _, rfl, _, rfl, a, i, xs, rs, r, z, rfl, pa, er, by omega, hz, pr.mem_iff.mpr hz, fun ps PA H1 s1 nPA hPA _ pps => ?_⟩
    refine ⟨_, rfl, (show 1 ≤ sizeLine by decide), fun F0 nF0 => ?_⟩
    have s2 := s1.trans (sn nF0 (o := .lst [.str z]))
    have hF0 : upd H1 F0 (.lst [.str z]) F0 = some (.lst (([z] : List Str).map V.str)) := upd_same
    have hPA2 := (sn nF0 (o := .lst [.str z])) _ _ hPA
    generalize upd H1 F0 (.lst [.str z]) = H2 at s2 hF0 hPA2 ⊢
    refine ⟨_, rfl, _, rfl, b, z, xs, ts, rfl, pb.same s2, wb, hz, fun LL ls lots H3 s3 nLL lo hLL hls _ => ?_⟩
    obtain ⟨llots, slots⟩ := lot_len lo
    have lts := wb.l60
    have s13 := s2.trans s3
    have memp : ∀ y, y ∈ ps ↔ y ∈ r.take (r.idxOf z) := fun y => pps.mem_iff
    have less_eq : ∀ l : List Str, less ps l = less (r.take (r.idxOf z)) l := fun l => by
      unfold less
      refine List.filter_congr fun y _ => ?_
      rw [decide_eq_decide, memp]
    refine ⟨LL, rfl, ⟨_, SqL.of hLL⟩, for_list (K := K) (a := LL) (xs := ls.map V.ref) (fun j σ H' => ∃ (o : Option V) (G : Addr), σ = [some (.ref a), some (.ref b), some (.int (i : Int)), some (.str z), some (.ref PA), some (.ref G), o, none] ∧ H' G = some (.lst ((fbL (r.take (r.idxOf z)) z (lots.take j)).map V.str)) ∧ Same H3 H')
      ⟨none, F0, rfl, s3 _ _ hF0, Same.refl _⟩ (fun j σ H' _ h => by obtain ⟨_, _, _, _, h⟩ := h; exact SqL.of (h _ _ hLL)) ?_ ?_⟩
    · rintro j y σ H4 hj ⟨o, G, rfl, hG, g⟩
      rw [List.getElem?_map] at hj
      obtain ⟨c, hc, rfl⟩ := Option.map_eq_some_iff.mp hj
      obtain ⟨l, el, hl⟩ := (hls.same g).at hc
      have ll : l.length ≤ 40 := Nat.le_trans (slots l (List.mem_of_getElem? el)).length_le l40
      have hPA4 := (s3.trans g) _ _ hPA2
      have stp : fbL (r.take (r.idxOf z)) z (lots.take (j + 1)) = fbS (r.take (r.idxOf z)) (fbL (r.take (r.idxOf z)) z (lots.take j)) l := by
        unfold fbL
        rw [List.take_succ, el, List.foldl_append]
        rfl
      have lf : (fbL (r.take (r.idxOf z)) z (lots.take j)).length ≤ 61 := by
        have h1 := fbL_len (ps := r.take (r.idxOf z)) (lots := lots.take j) (fd := [z])
        have h2 := List.length_take_le' j lots
        unfold fbL
        rw [List.length_singleton] at h1
        omega
      generalize fbL (r.take (r.idxOf z)) z (lots.take j) = fd at hG stp lf
      refine ⟨_, rfl, c, rfl, ⟨_, SqL.of hl⟩, fun D nD => lc_list (K := K) (a := c) (xs := l.map V.str) (fun m H' => H' D = some (.lst (((l.take m).map fun y => decide (y ∈ fd)).map V.bl)) ∧ Same H4 H') ⟨upd_same, sn nD⟩ (fun m H' _ h => SqL.of (h.2 _ _ hl)) ?_ ?_⟩
      · rintro m y H' hm ⟨q1, q2⟩
        rw [List.getElem?_map] at hm
        obtain ⟨u, hu, rfl⟩ := Option.map_eq_some_iff.mp hm
        refine ⟨rfl, _, rfl, _, rfl, G, fd.map V.str, rfl, .inl (SqL.of (q2 _ _ hG)), rfl, flat_strs, ?_⟩
        rw [if_neg Bool.false_ne_true, inV_str]
        refine ⟨_, q1, small1000 (by rw [List.length_map, List.length_map, List.length_take]; omega), ?_, fun b o e => ?_⟩
        · rw [upd_same, List.take_succ, hu, List.map_append, List.map_append]
          rfl
        · rw [upd_ne (ne_of_none e nD)]
          exact q2 _ _ e
      rintro H5 ⟨q1, q2⟩
      have el2 : (l.map V.str).length = l.length := List.length_map _
      rw [el2, List.take_length] at q1
      refine ⟨D, l.map fun y => decide (y ∈ fd), rfl, SqL.of q1, _, rfl, ?_⟩
      have ea : (l.map fun y => decide (y ∈ fd)).any id = l.any (fun y => decide (y ∈ fd)) := by
        rw [List.any_map]
        rfl
      rw [ea]
      cases e : l.any (fun y => decide (y ∈ fd)) with
      | true =>
        refine iteF ⟨_, G, rfl, ?_, g.trans q2⟩
        rw [stp]
        unfold fbS
        rw [if_pos e]
        exact q2 _ _ hG
      | false =>
        refine iteT ⟨_, rfl, _, rfl, c, rfl, ⟨_, SqL.of (q2 _ _ hl)⟩, fun D2 nD2 => lc_list (K := K) (a := c) (xs := l.map V.str) (fun m H' => H' D2 = some (.lst ((less ps (l.take m)).map V.str)) ∧ Same H5 H') ⟨upd_same, sn nD2⟩ (fun m H' _ h => SqL.of (h.2 _ _ (q2 _ _ hl))) ?_ ?_⟩
        · rintro m y H' hm ⟨u1, u2⟩
          rw [List.getElem?_map] at hm
          obtain ⟨u, hu, rfl⟩ := Option.map_eq_some_iff.mp hm
          refine ⟨rfl, _, rfl, _, rfl, PA, ps.map V.str, rfl, .inl (SqL.of ((q2.trans u2) _ _ hPA4)), rfl, flat_strs, ?_⟩
          refine ⟨decide (u ∉ ps), by rw [if_pos rfl, inV_str, decide_not], ?_⟩
          have tk := less_take (zs := ps) hu
          by_cases eu : u ∈ ps
          · rw [decide_eq_false (fun q => q eu)]
            rw [if_pos eu, List.append_nil] at tk
            refine iteF ?_
            rw [tk]
            exact ⟨u1, u2⟩
          · rw [decide_eq_true eu]
            rw [if_neg eu] at tk
            refine iteT ⟨_, rfl, _, u1, small1000 ?_, ?_, fun b o eb => ?_⟩
            · rw [List.length_map]
              have h1 : (less ps (l.take m)).length ≤ (l.take m).length := List.length_filter_le _ _
              have h2 := List.length_take_le' m l
              omega
            · rw [upd_same, tk, List.map_append]
              rfl
            · rw [upd_ne (ne_of_none eb nD2)]
              exact u2 _ _ eb
        rintro H6 ⟨u1, u2⟩
        rw [el2, List.take_length] at u1
        refine ⟨_, rfl, D2, _, rfl, SqL.of u1, fun D3 nD3 => ?_⟩
        have s46 := q2.trans u2
        have ec : cutV ((less ps l).map V.str) none (some (1 : Int)) = ((less ps l).take 1).map V.str := (cut_any (m := 1)).trans (by rw [← List.map_take])
        rw [ec]
        have s3' := sn nD3 (o := .lst (((less ps l).take 1).map V.str))
        refine ⟨G, D3, _, _, rfl, rfl, s3' _ _ (s46 _ _ hG), upd_same, Nat.le_of_lt (small1000 (by rw [List.length_map, List.length_map, List.length_take]; omega)), fun G2 nG2 => ?_⟩
        rw [← List.map_append]
        refine ⟨_, G2, rfl, ?_, g.trans (s46.trans (s3'.trans (sn nG2)))⟩
        rw [upd_same, stp]
        unfold fbS
        rw [if_neg (by rw [e]; exact Bool.false_ne_true), less_eq]
    · rintro σ H4 ⟨o, G, rfl, hG, g⟩
      rw [List.length_map, hls.len, List.take_length] at hG
      have lf : (fbL (r.take (r.idxOf z)) z lots).length ≤ 61 := by
        have h1 := fbL_len (ps := r.take (r.idxOf z)) (lots := lots) (fd := [z])
        unfold fbL
        rw [List.length_singleton] at h1
        omega
      have s14 := s13.trans g
      exact ⟨_, rfl, G, _, rfl, SqL.of hG, by omega, fun us q py so nq => k q us lots _ (s14.trans (sn nq)) (s14.free nq) lo py so upd_same⟩
end
end G14

set_option maxHeartbeats 8000000
namespace G14
open PySem PySem.Spec PyProof.Rows L2 G1
/-- the first place where a row is not let -/
def FirstBad (xs : List Str) (rs ts : List (List Str)) (i j : Nat) (r : List Str) (z : Str) : Prop := rs[i]? = some r ∧ r[j]? = some z ∧ okB xs ts r z = false ∧ (∀ y ∈ r.take j, okB xs ts r y = true) ∧ ∀ q ∈ rs.take i, ∀ y ∈ q, okB xs ts q y = true
theorem take_at {α : Type} {l : List α} {i k : Nat} {x : α} (h : l[i]? = some x) (lt : i < k) : x ∈ l.take k := by
  obtain ⟨hi, e⟩ := List.getElem?_eq_some_iff.mp h
  exact List.mem_iff_getElem.mpr ⟨i, by rw [List.length_take]; omega, by rw [List.getElem_take]; exact e⟩
theorem first_uniq {xs : List Str} {rs ts : List (List Str)} {i j i2 j2 : Nat} {r r2 : List Str} {z z2 : Str} (h : FirstBad xs rs ts i j r z) (g : FirstBad xs rs ts i2 j2 r2 z2) : i = i2 ∧ z = z2 ∧ r = r2 := by
  obtain ⟨h1, h2, h3, h4, h5⟩ := h
  obtain ⟨g1, g2, g3, g4, g5⟩ := g
  rcases Nat.lt_trichotomy i i2 with lt | rfl | lt
  · have := g5 r (take_at h1 lt) z (List.mem_of_getElem? h2)
    rw [h3] at this
    cases this
  · rw [h1] at g1
    obtain rfl := Option.some.inj g1
    rcases Nat.lt_trichotomy j j2 with lt | rfl | lt
    · have := g4 z (take_at h2 lt)
      rw [h3] at this
      cases this
    · rw [h2] at g2
      exact ⟨rfl, Option.some.inj g2, rfl⟩
    · have := h4 z2 (take_at g2 lt)
      rw [g3] at this
      cases this
  · have := h5 r2 (take_at g1 lt) z2 (List.mem_of_getElem? g2)
    rw [g3] at this
    cases this
theorem first_not {xs : List Str} {rs ts : List (List Str)} {i j : Nat} {r : List Str} {z : Str} (h : FirstBad xs rs ts i j r z) : withinB xs rs ts = false := by
  cases q : withinB xs rs ts with
  | false => rfl
  | true =>
    have := List.all_eq_true.mp (List.all_eq_true.mp q r (List.mem_of_getElem? h.1)) z (List.mem_of_getElem? h.2.1)
    rw [h.2.2.1] at this
    cases this
/-- the field that parts rs from ts -/
def Part1 (xs : List Str) (rs ts : List (List Str)) (us : List Str) : Prop := ∃ (i j : Nat) (r : List Str) (z : Str) (lots : List (List Str)), FirstBad xs rs ts i j r z ∧ LotsOf xs ts z lots ∧ us.Perm (fbL (r.take (r.idxOf z)) z lots) ∧ sortedS us = true
def PartOf (xs : List Str) (rs ts : List (List Str)) (us : List Str) : Prop := Part1 xs rs ts us ∨ (withinB xs rs ts = true ∧ Part1 xs ts rs us)
theorem part1_uniq {xs : List Str} {rs ts : List (List Str)} {us vs : List Str} (h : Part1 xs rs ts us) (g : Part1 xs rs ts vs) : us = vs := by
  obtain ⟨i, j, r, z, lots, h1, h2, h3, h4⟩ := h
  obtain ⟨i2, j2, r2, z2, lots2, g1, g2, g3, g4⟩ := g
  obtain ⟨_, rfl, rfl⟩ := first_uniq h1 g1
  obtain rfl := lots_uniq h2 g2
  exact sorted_uniq h4 g4 (h3.trans g3.symm)
theorem part1_not {xs : List Str} {rs ts : List (List Str)} {us : List Str} (h : Part1 xs rs ts us) : withinB xs rs ts = false := by
  obtain ⟨i, j, r, z, lots, h1, _⟩ := h
  exact first_not h1
theorem part_uniq {xs : List Str} {rs ts : List (List Str)} {us vs : List Str} (h : PartOf xs rs ts us) (g : PartOf xs rs ts vs) : us = vs := by
  rcases h with h | ⟨w, h⟩ <;> rcases g with g | ⟨w2, g⟩
  · exact part1_uniq h g
  · rw [part1_not h] at w2
    cases w2
  · rw [part1_not g] at w
    cases w
  · exact part1_uniq h g
def spPF (C : Addr) : Sp := fun vs H Q _ => ∃ (a b : Addr) (xs : List Str) (rs ts : List (List Str)), vs = [.ref a, .ref b] ∧ PanF H C a xs rs ∧ PanF H C b xs ts ∧ Rw xs rs ∧ Rw xs ts ∧
  (∀ H', Same H H' → withinB xs rs ts = true → withinB xs ts rs = true → Q .non H') ∧ ∀ (D : Addr) (us : List Str) (H' : Hp), Same H H' → H D = none → PartOf xs rs ts us → H' D = some (.lst (us.map V.str)) → Q (.ref D) H'
section
variable {P : Program} {w : World} {K : PySem.W.Frag} {mg : Str → Option Value} {base : Heap} {C : Addr}
abbrev sPF : Stmt := top 56
abbrev nPF : List Str := ["one", "other", "giver", "keeper", "bad", "at", "entry"]
theorem scPF : FnScope nPF ["one", "other"] (defScope sPF) := ⟨rfl, rfl, rfl, by decide +kernel, rfl, by decide +kernel, by decide +kernel⟩
theorem ok_pF {f : Addr} {fd : FuncData} (F : FnP K "parting_field" sPF f fd) (DC : Df P w K mg base 2 "check_panels" sChkPs ["one", "other"] (spChkPs C)) (DB : Df P w K mg base 5 "bad_row" sBad ["one", "other"] (spBad C)) (DF : Df P w K mg base 5 "field_beyond" sFB ["one", "other", "at", "entry"] (spFB C)) :
    FnOk P w K mg base CX0 6 f fd ["one", "other"] (spPF C) := by
  refine okN F scPF (fun vs H Q E h => ?_) (fun cdv A outer s H vs Q E hr h => ?_)
  · obtain ⟨_, _, _, _, _, rfl, _⟩ := h
    rfl
  · obtain ⟨a, b, xs, rs, ts, rfl, pa, pb, wa, wb, k1, k2⟩ := h
    have nd := scPF.nd
    have r2 : Room 2 (A.deeper (envOfC "parting_field" (defScope sPF) s.heap.objs.size f cdv)) := hr.mono (by decide)
    refine ⟨_, pss_cons (ps_expr (pe_df DC r2 (by rfl) (pa_cons (pv 0) (pa_cons (pv 1) pa_nil))))
      (pss_cons (ps_for PassesOwn.never rfl (pi_list (pe_lst (pa_cons (pe_tup (pa_cons (pv 0) (pa_cons (pv 1) pa_nil))) (pa_cons (pe_tup (pa_cons (pv 1) (pa_cons (pv 0) pa_nil))) pa_nil))))
          (pg_tup (n := 2) (by rfl) (pgs_cons (pg_name (i := 2) nd rfl (Or.inl rfl)) (pgs_cons (pg_name (i := 3) nd rfl (Or.inl rfl)) pgs_nil)))
        (pss_cons (ps_set (i := 4) nd rfl (Or.inl rfl) (pe_df DB hr (by rfl) (pa_cons (pv 2) (pa_cons (pv 3) pa_nil))))
        (pss_one (ps_if (pt_cmpR op_notN (pv 4) pe_non (nomark _))
          (pss_cons (ps_asg (pv 4) (pg_tup (n := 2) (by rfl) (pgs_cons (pg_name (i := 5) nd rfl (Or.inl rfl)) (pgs_cons (pg_name (i := 6) nd rfl (Or.inl rfl)) pgs_nil))))
          (pss_one (ps_ret (pe_df DF hr (by rfl) (pa_cons (pv 2) (pa_cons (pv 3) (pa_cons (pv 5) (pa_cons (pv 6) pa_nil)))))))) pss_nil))))
      (pss_one (ps_ret pe_non))), ?_⟩
    refine ⟨_, rfl, _, rfl, a, b, xs, rs, ts, rfl, pa, pb, fun H1 s1 => ?_⟩
    have e2 : 2 ≤ sizeLine := by decide
    refine ⟨_, rfl, _, rfl, e2, fun t1 n1 => ⟨_, rfl, _, rfl, e2, fun t2 n2 => ⟨e2, fun L nL => ?_⟩⟩⟩
    have z1 := sn n1 (o := .tup [.ref a, .ref b])
    have z2 := sn n2 (o := .tup [.ref b, .ref a])
    have z3 := sn nL (o := .lst [.ref t1, .ref t2])
    have f1 := (z2.trans z3) _ _ (upd_same (H := H1) (a := t1))
    have f2 := z3 _ _ upd_same
    have hL := upd_same (H := upd (upd H1 t1 (.tup [.ref a, .ref b])) t2 (.tup [.ref b, .ref a])) (a := L) (o := .lst [.ref t1, .ref t2])
    have sA := s1.trans (z1.trans (z2.trans z3))
    generalize upd (upd (upd H1 t1 (.tup [.ref a, .ref b])) t2 (.tup [.ref b, .ref a])) L (.lst [.ref t1, .ref t2]) = H2 at f1 f2 hL sA ⊢
    clear z1 z2 z3
    -- one turn: giver g, keeper h
    have turn : ∀ (g h t : Addr) (us ws : List (List Str)) (o2 o3 o4 o5 o6 : Option V) (H3 : Hp) (Q0 : L2.St → Hp → Prop), Same H2 H3 → H2 t = some (.tup [.ref g, .ref h]) → True := fun _ _ _ _ _ _ _ _ _ _ _ _ _ _ => trivial
    clear turn
    refine ⟨L, rfl, ⟨_, SqL.of hL⟩, for_list (K := K) (a := L) (xs := [.ref t1, .ref t2]) (fun i σ H' => ∃ o2 o3 o4 o5 o6 : Option V, σ = [some (.ref a), some (.ref b), o2, o3, o4, o5, o6] ∧ (1 ≤ i → withinB xs rs ts = true) ∧ (2 ≤ i → withinB xs ts rs = true) ∧ Same H2 H')
      ⟨none, none, none, none, none, rfl, by omega, by omega, Same.refl _⟩ (fun i σ H' _ h => by obtain ⟨_, _, _, _, _, _, _, _, h⟩ := h; exact SqL.of (h _ _ hL)) ?_ ?_⟩
    · rintro i y σ H3 hi ⟨o2, o3, o4, o5, o6, rfl, w1, w2, g⟩
      have s3 := sA.trans g
      have wi : ∀ {us ws : List (List Str)}, (∀ r ∈ us, ∀ z ∈ r, okB xs ws r z = true) → withinB xs us ws = true := fun h => List.all_eq_true.mpr fun r hr => List.all_eq_true.mpr fun z hz => h r hr z hz
      match i, hi with
      | 0, hi =>
        obtain rfl := Option.some.inj hi
        refine ⟨t1, _, rfl, SqT.of (g _ _ f1), rfl, _, _, rfl, _, _, rfl, rfl, ?_⟩
        refine ⟨_, rfl, _, rfl, a, b, xs, rs, ts, rfl, pa.same s3, pb.same s3, wa, wb, fun H4 s4 ok => ?_, fun i j r z T H4 s4 er ez no old old2 nT hT => ?_⟩
        · refine ⟨_, rfl, rfl, _, rfl, ?_⟩
          rw [decide_eq_true rfl]
          exact iteF ⟨_, _, _, _, _, rfl, fun _ => wi ok, by omega, g.trans s4⟩
        · refine ⟨_, rfl, rfl, _, rfl, ?_⟩
          rw [decide_eq_false (fun q => nomatch q)]
          have zx : z ∈ xs := (wa.pr r (List.mem_of_getElem? er)).mem_iff.mp (List.mem_of_getElem? ez)
          refine iteT ⟨_, rfl, T, _, rfl, SqT.of hT, rfl, _, _, rfl, _, _, rfl, rfl, ?_⟩
          refine ⟨_, rfl, _, rfl, _, rfl, _, rfl, a, b, i, z, xs, rs, ts, r, rfl, pa.same (s3.trans s4), pb.same (s3.trans s4), wa, wb, er, zx, fun D us lots H5 s5 nD lo pu su hD => ?_⟩
          exact k2 D us H5 (s3.trans (s4.trans s5)) ((s3.trans s4).free nD) (.inl ⟨i, j, r, z, lots, ⟨er, ez, no, old, old2⟩, lo, pu, su⟩) hD
      | 1, hi =>
        obtain rfl := Option.some.inj hi
        refine ⟨t2, _, rfl, SqT.of (g _ _ f2), rfl, _, _, rfl, _, _, rfl, rfl, ?_⟩
        refine ⟨_, rfl, _, rfl, b, a, xs, ts, rs, rfl, pb.same s3, pa.same s3, wb, wa, fun H4 s4 ok => ?_, fun i j r z T H4 s4 er ez no old old2 nT hT => ?_⟩
        · refine ⟨_, rfl, rfl, _, rfl, ?_⟩
          rw [decide_eq_true rfl]
          exact iteF ⟨_, _, _, _, _, rfl, fun _ => w1 (by omega), fun _ => wi ok, g.trans s4⟩
        · refine ⟨_, rfl, rfl, _, rfl, ?_⟩
          rw [decide_eq_false (fun q => nomatch q)]
          have zx : z ∈ xs := (wb.pr r (List.mem_of_getElem? er)).mem_iff.mp (List.mem_of_getElem? ez)
          refine iteT ⟨_, rfl, T, _, rfl, SqT.of hT, rfl, _, _, rfl, _, _, rfl, rfl, ?_⟩
          refine ⟨_, rfl, _, rfl, _, rfl, _, rfl, b, a, i, z, xs, ts, rs, r, rfl, pb.same (s3.trans s4), pa.same (s3.trans s4), wb, wa, er, zx, fun D us lots H5 s5 nD lo pu su hD => ?_⟩
          exact k2 D us H5 (s3.trans (s4.trans s5)) ((s3.trans s4).free nD) (.inr ⟨w1 (by omega), i, j, r, z, lots, ⟨er, ez, no, old, old2⟩, lo, pu, su⟩) hD
      | i + 2, hi => simp at hi
    · rintro σ H3 ⟨o2, o3, o4, o5, o6, rfl, w1, w2, g⟩
      exact k1 H3 (sA.trans g) (w1 (by simp)) (w2 (by simp))
end
end G14

set_option maxHeartbeats 4000000
/-! What refusals want: not in over lists of texts, calls of an expression's value, calls by names, a try whose last clauses are never come to. -/
namespace G1
open PySem PySem.Spec PyProof.Rows L2
theorem pe_never {X : Cx} {e : Expr} : PE X e (fun _ _ _ => False) := ⟨fun _ _ _ _ _ _ h => h.elim⟩
/-- x not in a list of texts, x of any kind -/
def rNotInW (K : PySem.W.Frag) (n : Nat) : R2 := fun x y H Q => ∃ (p : Addr) (zs : List Str) (f : Str → Bool), y = .ref p ∧ SqL K H p (zs.map V.str) ∧ (∀ z ∈ zs, EqW K H n (.str z) x (f z)) ∧ Q (.bl (!zs.any f)) H
section
variable {X : Cx} {n : Nat}
theorem op_notInW (hu : X.A.units + (n + 1) < cLine) : OpR X (compareOp .NotIn) (rNotInW X.K n) := by
  intro pins s σ H x y v u Q I rx ry h
  obtain ⟨p, zs, f, rfl, hp, hf, q⟩ := h
  cases ry
  obtain ⟨is, r1, p1, _⟩ := I.list hp
  refine SeqAt.notIn_listAt (itemS f) p1.isList (fun w hw => ?_) ⟨.bl _, H, I, rfl, ?_⟩
  · obtain ⟨i, hi, e⟩ := List.mem_iff_getElem.mp (show w ∈ is by simpa using hw)
    obtain ⟨x1, hx1, rx1⟩ := vals_at r1 (i := i) (u := w) (by rw [← e]; exact List.getElem?_eq_getElem hi)
    rw [List.getElem?_map] at hx1
    obtain ⟨z, hz, rfl⟩ := Option.map_eq_some_iff.mp hx1
    have q1 := (hf z (List.mem_of_getElem? hz)).at I (A := X.A.in1) (by have := units_in1 X.A; omega) rx1 rx
    obtain ⟨k, rfl⟩ := rx1
    exact q1
  · rw [show is.toArray.any (itemS f) = is.any (itemS f) by simp, any_itemS r1]
    exact q
end
/-- the call of what an expression tells -/
def tCallX (f : Addr) (sp : Sp) (E : L2.St → XK) (tf : TE) (t : TA) : TE := fun σ H Q => tf σ H fun x H1 => x = .ref f ∧ t σ H1 fun vs H2 => sp vs H2 Q (E σ)
section
variable {X : Cx} {CX : CXT} {k : Nat} {f : Addr} {fd : FuncData} {ps : List Str} {sp : Sp} {E : L2.St → XK} {pos : Pos} {fe e : Expr} {es : List Expr} {tf : TE} {t : TA}
theorem pe_callX (F : FnOk X.prog X.w X.K X.mg X.base CX k f fd ps sp) (hr : Room k X.A) (hk : PySem.W.keepIn X.K (.ref f) = true) (hb : Binds X.K fd ps []) (hx : ∀ σ, PassesAt CX X σ (E σ)) (hf : PE X fe tf) (ha : PA X (e :: es) t)
    (he : eval (.Call fe (e :: es) [] pos) X.env = (do callWith pos (← eval fe X.env) [] (backTo pos (starEach (e :: es) X.env)) (backToKw pos (keywordEach [] X.env))) := by rfl)
    (hs : starEach (e :: es) X.env = (false, eval e X.env) :: starEach es X.env := by rfl) (hpl : (backTo pos (starEach es X.env)).any (·.1) = false := by rfl) : PE X (.Call fe (e :: es) [] pos) (tCallX f sp E tf t) := by
  constructor
  intro pins s0 σ H0 Q I0 h
  apply Call_ (he := he)
  refine thn (hf.run pins s0 σ H0 _ I0 h) fun u s1 z => ?_
  obtain ⟨x, H1, I1, rx, rfl, q1⟩ := z
  obtain rfl : u = Value.ref f := rx
  refine PySem.W.callWith_K (h₀ := X.base) I1.ok.mod.kin hk (thn (ha.run pos pins s1 σ H1 _ I1 q1) fun us s z => ?_) hs hpl
  obtain ⟨vs, H, I, r, q⟩ := z
  refine ⟨I.kIn, ?_⟩
  have r2 : Vals (vs ++ []) (us ++ []) := r.append .nil
  have q2 : sp (vs ++ []) H Q (E σ) := by rw [List.append_nil]; exact q
  have hl : (us ++ []).length = ps.length := by rw [← r2.length]; exact F.len _ _ _ _ q2
  refine wpAny_call (codeAny_mono (F.run X.A X.stack s H ⟨us, []⟩ (us ++ []) (vs ++ []) Q (E σ) hr I.env0 (hb s us I.kIn hl) r2 q2) fun r s' hq => ?_)
  match r, hq with
  | .error e, hq => exact hx σ pins H s e s' I hq
  | .ok (.ret u), hq => exact I.after hq
end
/-! ### calls by names alone -/
def gI {α : Type} (idx : List Nat) (us ws : List α) : List α := idx.filterMap fun i => (us ++ ws)[i]?
theorem gI_vals {vs zs : List V} {us ws : List Value} (r1 : Vals vs us) (r2 : Vals zs ws) : ∀ idx : List Nat, Vals (gI idx vs zs) (gI idx us ws)
  | [] => .nil
  | i :: idx => by
    have r := r1.append r2
    have ih := gI_vals r1 r2 idx
    unfold gI at ih ⊢
    rw [List.filterMap_cons, List.filterMap_cons]
    cases e : (vs ++ zs)[i]? with
    | none =>
      have e2 : (us ++ ws)[i]? = none := by
        rw [List.getElem?_eq_none_iff, ← r.length]
        exact List.getElem?_eq_none_iff.mp e
      rw [e2]
      exact ih
    | some v =>
      obtain ⟨u, hu, ru⟩ := r.get e
      rw [hu]
      exact .cons ru ih
theorem FunD.kbP {K : PySem.W.Frag} {x qual : Str} {params : Arguments} {body : List Stmt} {scope : Scope} {kws : List (Str × V)} {f : Addr} {fd : FuncData} {ps : List Str} (F : FunD K x qual params body scope [] kws f fd) (n : Nat) (ks : List Str) (idx : List Nat)
    (h : ∀ (kV doc pm : Value) (an : Option Addr) (cdv ct : Value) (us ws : List Value), us.length = n → ws.length = ks.length → bindArgs (PySem.W.fnOf x qual params body scope .none kV doc pm an cdv ct) ⟨us, ks.zip ws⟩ = pure (ps.zip (gI idx us ws))) :
    KBn K fd ps n ks (fun us ws => gI idx us ws) (fun vs zs => gI idx vs zs) := by
  obtain ⟨oc, od, dV, kV, doc, pm, an, cdv, ct, osl, rfl, lk, hcd, hD, hK⟩ := F.ex
  rcases hD with ⟨_, rfl⟩ | ⟨e, _⟩
  · exact ⟨fun s us ws X l1 l2 => .of_eq (h kV doc pm an cdv ct us ws l1 l2), fun r1 r2 => gI_vals r1 r2 idx⟩
  · exact absurd rfl e
def tCallN0 (m : Nat) (sp : Sp) (gV : List V → List V → List V) (E : XK) (tk : TA) : TE := fun σ H Q => tk σ H fun zs H2 => zs.length = m ∧ sp (gV [] zs) H2 Q E
def tMethN0 (C : Addr) (m : Str) (n : Nat) (sp : Sp) (gV : List V → List V → List V) (E : XK) (ta : TE) (tk : TA) : TE := fun σ H Q => ta σ H fun x H1 => ∃ a dx fs, x = .ref a ∧ H1 a = some (.ins C dx fs) ∧ fs.lookup m = none ∧ tk σ H1 fun zs H2 => zs.length = n ∧ sp (gV [x] zs) H2 Q E
section
variable {X : Cx} {CX : CXT} {k : Nat} {f C : Addr} {fd : FuncData} {ps ks : List Str} {sp : Sp} {E : XK} {x m : Str} {p pos apos : Pos} {o : Expr} {kws : List Keyword} {ta : TE} {tk : TA} {g : List Value → List Value → List Value} {gV : List V → List V → List V}
theorem pe_callN0 (F : FnOk X.prog X.w X.K X.mg X.base CX k f fd ps sp) (hr : Room k X.A) (hg : Gl X x) (hm : X.mg x = some (.ref f)) (hk : PySem.W.keepIn X.K (.ref f) = true) (hb : KBn X.K fd ps 0 ks g gV) (hx : Passes CX X E) (hkw : PK X kws tk)
    (hall : (backToKw pos (keywordEach kws X.env)).all (·.1.isSome) = true := by rfl) (hks : (backToKw pos (keywordEach kws X.env)).filterMap (·.1) = ks := by rfl) (hdb : (x == ("__debug__" : Str)) = false := by decide)
    (hpl : ((backTo pos (starEach [] X.env)).any (·.1) || (backToKw pos (keywordEach kws X.env)).any (·.1.isNone)) = false := by rfl) : PE X (.Call (.Name x p) [] kws pos) (tCallN0 ks.length sp gV E tk) := by
  constructor
  intro pins s σ H Q I h
  apply wpAny_Call_Name_kw (ld_glob I hg hm ?_ hdb)
  refine PySem.W.callWith_KW0 (h₀ := X.base) I.ok.mod.kin hk hall (thn (hkw.run pos pins s σ H _ I h) fun ws s1 z => ?_) hpl
  obtain ⟨zs, H1, I1, rz, l2, q⟩ := z
  refine ⟨I1.kIn, ?_⟩
  rw [hks]
  exact run_fnN (us := []) (vs := []) F hr hb hx I1 .nil rz rfl l2 q
theorem pe_methN0 {pl : Sem Bool} (he : PE X o ta) (c : Cls X.K C) (hm : Meth X.K C m f) (F : FnOk X.prog X.w X.K X.mg X.base CX k f fd ps sp) (hr : Room k X.A) (hb : KBn X.K fd ps 1 ks g gV) (hx : Passes CX X E) (hkw : PK X kws tk)
    (hall : (backToKw pos (keywordEach kws X.env)).all (·.1.isSome) = true := by rfl) (hks : (backToKw pos (keywordEach kws X.env)).filterMap (·.1) = ks := by rfl)
    (hpl : ((backTo pos (starEach [] X.env)).any (·.1) || (backToKw pos (keywordEach kws X.env)).any (·.1.isNone)) = false := by rfl)
    (ht : eval (.Call (.Attribute o m apos) [] kws pos) X.env = (do
      let ov ← eval o X.env
      standAt apos.atName
      let (f, first) ← holding [ov] (getMethod ov m pl)
      callWith pos f first (backTo pos (starEach [] X.env)) (backToKw pos (keywordEach kws X.env))) := by rfl) :
    PE X (.Call (.Attribute o m apos) [] kws pos) (tMethN0 C m ks.length sp gV E ta tk) := by
  constructor
  intro pins s σ H Q I h
  apply PySem.W.methodCall_KW (pl := pl) (he := ht)
  refine thn (he.run pins s σ H _ I h) fun u s1 z => ?_
  obtain ⟨x, H1, I1, rx, a, dx, fs, rfl, ea, l, q⟩ := z
  obtain rfl : u = Value.ref a := rx
  refine getmeth_ok I1 ea c hm l ?_
  refine PySem.W.callWith_KW0 (first := [.ref a]) (h₀ := X.base) I1.ok.mod.kin hm.kp hall (thn (hkw.run pos pins s1 σ H1 _ I1 q) fun ws s2 z => ?_) hpl
  obtain ⟨zs, H2, I2, rz, l2, q2⟩ := z
  refine ⟨I2.kIn, ?_⟩
  rw [hks]
  exact run_fnN (us := [.ref a]) (vs := [.ref a]) F hr hb hx I2 (.cons rfl .nil) rz rfl l2 q2
end
end G1

set_option maxHeartbeats 4000000
/-! Several except clauses, each with the exception's name; what stands behind them is never come to. -/
namespace G1
open PySem PySem.Spec PyProof.Rows L2
inductive HdsSo (X : Cx) (n : Str) : List ExceptHandler → List (Value × TsE) → Prop
  | stop {hds : List ExceptHandler} : HdsSo X n hds []
  | cons {x : Str} {c : Value} {ts : TsE} {b0 : Stmt} {su : List Stmt} {q1 q2 : Pos} {hds : List ExceptHandler} {l : List (Value × TsE)} : Names X x c →
      (∀ (a : Addr) (oe : Obj) (cls : Value) (d : Option Addr) (pn : List (Addr × Obj)), Zc cls d oe → (∃ vs, oe.data = .fields vs) → PSs (X.suite a ((a, oe) :: pn)) (b0 :: su) (ts a cls d)) → HdsSo X n hds l →
      HdsSo X n (.ExceptHandler (some (.Name x q1)) (some n) (b0 :: su) q2 :: hds) ((c, ts) :: l)
section
variable {X : Cx} {body : List Stmt} {h0 : ExceptHandler} {hds : List ExceptHandler} {l : List (Value × TsE)} {pos : Pos} {tb : WX → TS} {n : Str} {i : Nat}
theorem ps_try_some (hs : X.stack = X.env :: X.outer) (hf : X.env.frame = some X.env.locals) (hN : X.N.Nodup) (hi : X.N[i]? = some n) (hln : X.env.kindOf n = some .local)
    (hb : ∀ (W : WX) (pn : List (Addr × Obj)) (xe : Value → Shared → Prop), Takes (X.tr pn xe) W → PassesOwn (model X.prog X.w) X.A X.env xe → PSs (X.tr pn xe) body (tb W)) (hh : HdsSo X n (h0 :: hds) l) :
    PS X (.Try body (h0 :: hds) [] [] pos) (fun D σ H => tb (wAll X.K i (fun _ _ _ _ => False) D l) D σ H) := by
  refine ⟨fun pins s σ H D I h => wpAny_Try_except ?_⟩
  have ok := I.ok
  have frm : X.A.frames = some (X.env :: X.outer) := ok.frames.trans (by rw [hs])
  have loc : Loc X.env.scope n := .inl hln
  let xe0 : Value → Shared → Prop := fun e s1 => wpAny (model X.prog X.w) X.A (noteFrame e X.env) (fun _ s2 => wpAny (model X.prog X.w) X.A (setFlight e none) (fun _ s3 => wpAny (model X.prog X.w) X.A (handleBy e X.env (h0 :: hds)) (SP X pins D) X.xe s3) X.xe s2) X.xe s1
  have take0 : Takes (X.tr (X.pn ++ pins) xe0) (wAll X.K i (fun _ _ _ _ => False) D l) := fun u s' xx => by
    obtain ⟨a, B, sI, pins', σ1, H1, cls, d, rfl, Jx, nb, up, sky, na, os, ag, w⟩ := xx
    have J : Inv X pins σ1 H1 sI := Jx.ofTry ok
    refine Sky.land Zc.steady frm hf (by rw [← hs]; exact sky : Sky B (X.env :: X.outer) a (Zc cls d) X.env.locals s'.heap) fun h3 fl up3 => ?_
    have J3 : Inv X pins σ1 H1 { s' with heap := h3 } := J.landed nb fl.1 (up.trans up3) os ag
    obtain ⟨o3, vs3, g3, z3, d3⟩ := fl.there
    have off : a ∉ frs (X.env :: X.outer) := fun hm => by
      obtain ⟨_, o', e', no⟩ := fl.2.2.1.mem hm
      rw [g3] at e'
      cases e'
      exact no _ d3
    have nL : a ≠ X.env.locals := fun q => off (List.mem_filterMap.mpr ⟨X.env, List.mem_cons_self, hf.trans (by rw [q])⟩)
    have nF : a ∉ X.fs := fun hm => by
      obtain ⟨ev, hev, q⟩ := List.mem_filterMap.mp hm
      exact off (List.mem_filterMap.mpr ⟨ev, List.mem_cons_of_mem _ hev, q⟩)
    have S3 := J3.suite g3 d3 na nL nF
    have LT : PySem.W.Looks (model X.prog X.w) h3 (typeOf (.ref a)) cls := fun A Q E t kp q => wpAny_typeOf_ref (kp _ _ g3) (z3.1 ▸ q)
    suffices go : ∀ {hds' : List ExceptHandler} {l' : List (Value × TsE)}, HdsSo X n hds' l' → wAll X.K i (fun _ _ _ _ => False) D l' cls d σ1 H1 → wpAny (model X.prog X.w) X.A (handleBy (.ref a) X.env hds') (SP X pins D) X.xe { s' with heap := h3 } from go hh w
    intro hds' l' hk
    induction hk with
    | stop => exact fun w => False.elim w
    | @cons x c ts b0 su q1 q2 hds2 l2 hc hsu r ih =>
      intro w
      obtain ⟨b, hb1, yes, no⟩ := w
      refine wpAny_handleBy_cons (codeAny_handlers_test ?_) (by intro q; cases q)
      have test : ∀ {Q : Value → Shared → Prop} {E : Value → Shared → Prop}, Q c { s' with heap := h3 } → wpAny (model X.prog X.w) (X.A.mark (some (.ref a))) (eval (.Name x q1) X.env) Q E { s' with heap := h3 } := fun q => by
        obtain ⟨hg, hdbg, hm | ⟨hm, hv, hnn⟩⟩ := hc
        · exact ld_glob (X := X.suite a ((a, o3) :: (X.pn ++ pins))) S3 hg hm q hdbg
        · exact ld_blt (X := X.suite a ((a, o3) :: (X.pn ++ pins))) S3 hg hm hv q hnn hdbg
      refine test ((PySem.W.exm_one (M := model X.prog X.w) J3.kIn LT hb1).here ?_)
      cases b with
      | false =>
        show wpAny _ X.A (handleBy (.ref a) X.env hds2) _ _ _
        exact ih (no rfl)
      | true =>
        refine codeAny_handlers_suite_as (HandSPX.lands_againZ fl fun h4 fl4 up4 => ?_)
        obtain ⟨o4, vs4, g4, z4, d4⟩ := fl4.there
        have S4 := (J.landed nb fl4.1 ((up.trans up3).trans up4) os ag : Inv X pins σ1 H1 { s' with heap := h4 }).suite g4 d4 na nL nF
        refine store_ok (X := X.suite a ((a, o4) :: (X.pn ++ pins))) (v := .ref a) S4 hN hi loc rfl (fun s5 S5 => ?_) (.inr hln)
        refine wpAny_mono ((hsu a o4 cls d (X.pn ++ pins) z4 ⟨_, d4⟩).run [] s5 _ H1 _ S5 (yes rfl a na)) (fun fl s6 res => ?_) (fun _ _ z => False.elim z)
        have close : ∀ {σ6 : L2.St} {H6 : Hp} {Q : Shared → Prop}, Inv (X.suite a ((a, o4) :: (X.pn ++ pins))) [] σ6 H6 s6 → (∀ s7, Inv X pins (σ6.set i none) H6 s7 → Q s7) →
            wpAny (model X.prog X.w) X.A (do bindName X.env n .none; unbindBehindTheSuite X.env n q2) (fun _ s7 => Q s7) X.xe s6 := fun S6 hq => gone_ok (S6.unsuite ok) hN hi hln hq
        match fl, res with
        | .next, ⟨_, _, S6, q6⟩ => exact close S6 fun s7 J7 => ⟨_, _, J7, q6⟩
        | .brk, ⟨_, _, S6, q6⟩ => exact close S6 fun s7 J7 => ⟨_, _, J7, q6⟩
        | .cont, ⟨_, _, S6, q6⟩ => exact close S6 fun s7 J7 => ⟨_, _, J7, q6⟩
        | .ret u, ⟨_, _, _, S6, r6, q6⟩ => exact close S6 fun s7 J7 => ⟨_, _, _, J7, r6, q6⟩
  refine wpAny_mono ((hb _ (X.pn ++ pins) xe0 take0 PassesOwn.looking).run [] s σ H D (I.toTry _) h) (fun fl s1 res => ?_) (fun _ _ z => z)
  match fl, res with
  | .next, ⟨σ1, H1, J, q⟩ => exact wpAny_execs_nil ⟨σ1, H1, J.ofTry ok, q⟩
  | .brk, ⟨σ1, H1, J, q⟩ => exact ⟨σ1, H1, J.ofTry ok, q⟩
  | .cont, ⟨σ1, H1, J, q⟩ => exact ⟨σ1, H1, J.ofTry ok, q⟩
  | .ret u, ⟨v, σ1, H1, J, r, q⟩ => exact ⟨v, σ1, H1, J.ofTry ok, r, q⟩
end
end G1

set_option maxHeartbeats 8000000
namespace G14
open PySem PySem.Spec PyProof.Rows L2 G1
/-! ### what is refused, and how -/
/-- raised with the very thing -/
def Rz (K : PySem.W.Frag) (x : Str) (v : V) (H : Hp) (E : XK) : Prop := ∀ (d : Addr) (H' : Hp), Same H H' → H d = none → H' d = some (.xd [("value", v)]) → E (.ref (ga K x)) (some d) H'
theorem Rz.same {K : PySem.W.Frag} {x : Str} {v : V} {H H1 : Hp} {E : XK} (h : Rz K x v H E) (s : Same H H1) : Rz K x v H1 E := fun d H' s' nd hd => h d H' (s.trans s') (s.free nd) hd
def inO (xs : List Str) : Option Str → Bool
  | some z => decide (z ∈ xs)
  | none => false
def OddP (K : PySem.W.Frag) (C : Addr) (H : Hp) (v : V) : Prop := ∃ T : String, TyX K H v (.type T) ∧ PySem.W.kitOne K (.type T) (.ref C) = some false
def OddC (K : PySem.W.Frag) (H : Hp) (many : Nat) (v : V) : Prop := ((∃ T : String, TyX K H v (.type T) ∧ kitB T "int" = some false) ∨ ∃ b, v = .bl b) ∨ ∃ i : Int, v = .int i ∧ (i < 0 ∨ (many : Int) ≤ i)
def OddN (K : PySem.W.Frag) (H : Hp) (xs : List Str) (v : V) : Prop := ∃ o, RIt K H v o ∧ inO xs o = false
def OddF (K : PySem.W.Frag) (H : Hp) (xs : List Str) (v : V) : Prop := (∃ T : String, TyX K H v (.type T) ∧ kitB T "list" = some false) ∨
  (∃ (l : Addr) (vs : List V) (os : List (Option Str)), v = .ref l ∧ H l = some (.lst vs) ∧ vs.length ≤ 60 ∧ RItL K H vs os ∧ os.all (inO xs) = false) ∨
  ∃ (l : Addr) (zs : List Str), v = .ref l ∧ H l = some (.lst (zs.map V.str)) ∧ zs.length ≤ 60 ∧ (lotB xs zs && decide (0 < zs.length)) = false
theorem OddP.same {K : PySem.W.Frag} {C : Addr} {H H' : Hp} {v : V} (h : OddP K C H v) (s : Same H H') : OddP K C H' v := by
  obtain ⟨T, t, n⟩ := h
  exact ⟨T, TyX.same t s, n⟩
theorem OddC.same {K : PySem.W.Frag} {H H' : Hp} {m : Nat} {v : V} (h : OddC K H m v) (s : Same H H') : OddC K H' m v := by
  rcases h with (⟨T, t, n⟩ | h) | h
  · exact .inl (.inl ⟨T, TyX.same t s, n⟩)
  · exact .inl (.inr h)
  · exact .inr h
theorem OddN.same {K : PySem.W.Frag} {H H' : Hp} {xs : List Str} {v : V} (h : OddN K H xs v) (s : Same H H') : OddN K H' xs v := by
  obtain ⟨o, r, n⟩ := h
  exact ⟨o, r.same s, n⟩
theorem OddF.same {K : PySem.W.Frag} {H H' : Hp} {xs : List Str} {v : V} (h : OddF K H xs v) (s : Same H H') : OddF K H' xs v := by
  rcases h with ⟨T, t, n⟩ | ⟨l, vs, os, rfl, h1, h2, h3, h4⟩ | ⟨l, zs, rfl, h1, h2⟩
  · exact .inl ⟨T, TyX.same t s, n⟩
  · exact .inr (.inl ⟨l, vs, os, rfl, s _ _ h1, h2, h3.same s, h4⟩)
  · exact .inr (.inr ⟨l, zs, rfl, s _ _ h1, h2⟩)
theorem any_mem {xs : List Str} {w : Str} : (xs.any fun z => eqV (.str z) (.str w)) = decide (w ∈ xs) := by
  induction xs with
  | nil => simp
  | cons x xs ih =>
    rw [List.any_cons, ih]
    show ((x == w) || decide (w ∈ xs)) = decide (w ∈ x :: xs)
    by_cases e : x = w
    · subst e
      simp
    · have e2 : ¬ w = x := fun q => e q.symm
      simp [e, e2]
theorem RIt.inW {K : PySem.W.Frag} {H : Hp} {v : V} {o : Option Str} (h : RIt K H v o) (xs : List Str) : ∃ f : Str → Bool, (∀ z ∈ xs, EqW K H 1 (.str z) v (f z)) ∧ xs.any f = inO xs o := by
  have no : ∀ {f : Str → Bool}, (∀ z, f z = false) → xs.any f = false := fun {f} h => by
    rw [List.any_eq_false]
    intro z _ q
    rw [h z] at q
    cases q
  cases h with
  | str w => exact ⟨fun z => eqV (.str z) (.str w), fun z _ => .flat rfl rfl, any_mem⟩
  | non => exact ⟨fun z => eqV (.str z) .non, fun z _ => .flat rfl rfl, no fun _ => rfl⟩
  | bl b => exact ⟨fun z => eqV (.str z) (.bl b), fun z _ => .flat rfl rfl, no fun _ => rfl⟩
  | int i => exact ⟨fun z => eqV (.str z) (.int i), fun z _ => .flat rfl rfl, no fun _ => rfl⟩
  | lst e => exact ⟨fun _ => false, fun z _ => .strList (SqL.of e), no fun _ => rfl⟩
  | tup e => exact ⟨fun _ => false, fun z _ => .strTup (SqT.of e), no fun _ => rfl⟩
  | dK e => exact ⟨fun _ => false, fun z _ => .strDict e, no fun _ => rfl⟩
def spChkPX (K : PySem.W.Frag) (C : Addr) : Sp := fun vs H Q E => ∃ v, vs = [v] ∧ OddP K C H v ∧ Rz K "InvalidPanel" v H E
def spIsCountX (K : PySem.W.Frag) : Sp := fun vs H Q _ => ∃ v, vs = [v] ∧ ((∃ T : String, TyX K H v (.type T) ∧ kitB T "int" = some false) ∨ ∃ b, v = .bl b) ∧ Q (.bl false) H
def spChkAtX (K : PySem.W.Frag) : Sp := fun vs H Q E => ∃ (m : Nat) (v : V), vs = [.int (m : Int), v] ∧ OddC K H m v ∧ Rz K "InvalidCount" v H E
def spChkNX (K : PySem.W.Frag) : Sp := fun vs H Q E => ∃ (n : Addr) (xs : List Str) (v : V), vs = [.ref n, v] ∧ SqL K H n (xs.map V.str) ∧ OddN K H xs v ∧ Rz K "UnknownEntry" v H E
def spIsLotX (K : PySem.W.Frag) : Sp := fun vs H Q _ => ∃ (n : Addr) (xs : List Str) (v : V), vs = [.ref n, v] ∧ SqL K H n (xs.map V.str) ∧ ((∃ T : String, TyX K H v (.type T) ∧ kitB T "list" = some false) ∨
  (∃ (l : Addr) (vs : List V) (os : List (Option Str)), v = .ref l ∧ H l = some (.lst vs) ∧ vs.length ≤ 60 ∧ RItL K H vs os ∧ os.all (inO xs) = false)) ∧ ∀ H', Same H H' → Q (.bl false) H'
def spIsFieldX (K : PySem.W.Frag) : Sp := fun vs H Q _ => ∃ (n : Addr) (xs : List Str) (v : V), vs = [.ref n, v] ∧ SqL K H n (xs.map V.str) ∧ OddF K H xs v ∧ ∀ H', Same H H' → Q (.bl false) H'
def spChkFX (K : PySem.W.Frag) : Sp := fun vs H Q E => ∃ (n : Addr) (xs : List Str) (v : V), vs = [.ref n, v] ∧ SqL K H n (xs.map V.str) ∧ OddF K H xs v ∧ Rz K "InvalidField" v H E
section
variable {P : Program} {w : World} {K : PySem.W.Frag} {mg : Str → Option Value} {base : Heap} {C : Addr}
theorem ok_chkPX {f : Addr} {fd : FuncData} (F : FnP K "check_panel" sChkP f fd) (LP : LibP mg) (gP : mg "Panel" = some (.ref C)) (R : ErrC P w K mg base "InvalidPanel") : FnOk P w K mg base (L2.CX P w) 3 f fd ["panel"] (spChkPX K C) := by
  refine F.ok scChkP (fun vs H Q E h => ?_) (fun cdv A outer s H vs Q E hr h => ?_)
  · obtain ⟨_, rfl, _⟩ := h
    rfl
  · obtain ⟨v, rfl, ⟨T, ty, nk⟩, k⟩ := h
    refine ⟨_, pss_one (ps_if (pt_not (pt_val (pe_callB call_isi (by rfl) LP.isi (by decide +kernel) (pa_cons (pv 0) (pa_cons (pe_glob (v := .ref C) (by rfl) gP rfl) pa_nil))))) (pss_one (ps_raiseV rfl R hr (takes_of rfl rfl rfl rfl) (by rfl) (pv 0))) pss_nil), ?_⟩
    exact ⟨_, rfl, v, .ref C, .type T, .ref C, false, rfl, .own C, ty, nk, _, rfl, _, rfl, fun d H' s nd hd => k d H' s nd hd⟩
theorem ok_isCountX {f : Addr} {fd : FuncData} (F : FnP K "is_count" sIsCount f fd) (LP : LibP mg) (LZ : LibZ mg) : FnOk P w K mg base CX0 1 f fd ["value"] (spIsCountX K) := by
  refine okN F scIsCount (fun vs H Q E h => ?_) (fun cdv A outer s H vs Q E hr h => ?_)
  · obtain ⟨_, rfl, _⟩ := h
    rfl
  · obtain ⟨v, rfl, h, k⟩ := h
    refine ⟨_, pss_one (ps_ret (pe_and (pe_callB call_isi (by rfl) LP.isi (by decide +kernel) (pa_cons (pv 0) (pa_cons (pe_bltn (v := .ty "int") (by rfl) LZ.int (by decide +kernel) rfl) pa_nil)))
      (pe_and (pe_not (pe_callB call_isi (by rfl) LP.isi (by decide +kernel) (pa_cons (pv 0) (pa_cons (pe_bltn (v := .ty "bool") (by rfl) LZ.bool (by decide +kernel) rfl) pa_nil)))) (pe_one (pe_cmpR op_ge (pv 0) pe_int (nomark _)))))), ?_⟩
    rcases h with ⟨T, ty, nk⟩ | ⟨b, rfl⟩
    · exact ⟨_, rfl, v, .ty "int", .type T, .type "int", false, rfl, .ty _, ty, kit_ty nk, false, rfl, iteF k⟩
    · refine ⟨_, rfl, .bl b, .ty "int", .type "bool", .type "int", true, rfl, .ty _, .base (.bl b), kit_ty (by decide +kernel), true, rfl, iteT ?_⟩
      exact ⟨_, rfl, .bl b, .ty "bool", .type "bool", .type "bool", true, rfl, .ty _, .base (.bl b), kit_ty (by decide +kernel), _, rfl, _, rfl, iteF k⟩
theorem ok_chkAtX {f fA : Addr} {fd fdA : FuncData} (F : FnP K "check_position" sChkAt f fd) (R : ErrC P w K mg base "InvalidCount") (FA : FnP K "is_count" sIsCount fA fdA) (gA : mg "is_count" = some (.ref fA)) (GA : FnOk P w K mg base CX0 1 fA fdA ["value"] spIsCount) (GX : FnOk P w K mg base CX0 1 fA fdA ["value"] (spIsCountX K)) :
    FnOk P w K mg base (L2.CX P w) 3 f fd ["many", "at"] (spChkAtX K) := by
  have bA : Binds K fdA ["value"] [] := FA.bindsN fun _ _ _ _ _ _ us hl => match us, hl with | [_], _ => rfl
  refine F.ok scChkAt (fun vs H Q E h => ?_) (fun cdv A outer s H vs Q E hr h => ?_)
  · obtain ⟨_, _, rfl, _⟩ := h
    rfl
  · obtain ⟨m, v, rfl, h, k⟩ := h
    have r1 : Room 1 (A.deeper (envOfC "check_position" (defScope sChkAt) s.heap.objs.size f cdv)) := hr.mono (by decide)
    rcases h with h | ⟨i, rfl, h⟩
    · refine ⟨_, pss_one (ps_if (PW.pt (pw_or (pt_not (pt_val (pe_call GX r1 (by rfl) gA FA.kp bA .nil pass0 (pa_cons (pv 1) pa_nil)))) (pw_or1 (pt_cmpR op_ge (pv 1) (pv 0) (nomark _))))) (pss_one (ps_raiseV rfl R hr (takes_of rfl rfl rfl rfl) (by rfl) (pv 1))) pss_nil), ?_⟩
      exact ⟨_, rfl, v, rfl, h, _, rfl, _, rfl, fun d H' s nd hd => k d H' s nd hd⟩
    · refine ⟨_, pss_one (ps_if (PW.pt (pw_or (pt_not (pt_val (pe_call GA r1 (by rfl) gA FA.kp bA .nil pass0 (pa_cons (pv 1) pa_nil)))) (pw_or1 (pt_cmpR op_ge (pv 1) (pv 0) (nomark _))))) (pss_one (ps_raiseV rfl R hr (takes_of rfl rfl rfl rfl) (by rfl) (pv 1))) pss_nil), ?_⟩
      refine ⟨_, rfl, i, rfl, ?_⟩
      by_cases e : 0 ≤ i
      · rw [decide_eq_true e]
        refine ⟨_, rfl, _, rfl, _, rfl, _, _, rfl, rfl, ?_⟩
        exact ⟨_, rfl, ite2 (fun _ => ⟨_, rfl, fun d H' s nd hd => k d H' s nd hd⟩) fun q => absurd (decide_eq_true (show i ≥ (m : Int) by omega)) q⟩
      · rw [decide_eq_false e]
        exact ⟨_, rfl, _, rfl, fun d H' s nd hd => k d H' s nd hd⟩
theorem ok_chkNX {f : Addr} {fd : FuncData} (F : FnP K "check_entry" sChkN f fd) (R : ErrC P w K mg base "UnknownEntry") : FnOk P w K mg base (L2.CX P w) 3 f fd ["entries", "entry"] (spChkNX K) := by
  refine F.ok scChkN (fun vs H Q E h => ?_) (fun cdv A outer s H vs Q E hr h => ?_)
  · obtain ⟨_, _, _, rfl, _⟩ := h
    rfl
  · obtain ⟨n, xs, v, rfl, hn, ⟨o, r, no⟩, k⟩ := h
    have hun := hr.un
    have hu2 : (A.deeper (envOfC "check_entry" (defScope sChkN) s.heap.objs.size f cdv)).units + (1 + 1) < cLine := by omega
    refine ⟨_, pss_one (ps_if (pt_cmpR (op_notInW (n := 1) hu2) (pv 1) (pv 0) (by rfl)) (pss_one (ps_raiseV rfl R hr (takes_of rfl rfl rfl rfl) (by rfl) (pv 1))) pss_nil), ?_⟩
    obtain ⟨g, h1, h2⟩ := r.inW xs
    refine ⟨_, rfl, _, rfl, n, xs, g, rfl, hn, h1, ?_⟩
    rw [h2, no]
    exact ⟨_, rfl, _, rfl, fun d H' s nd hd => k d H' s nd hd⟩
theorem ok_isLotX {f : Addr} {fd : FuncData} (F : FnP K "is_lot" sIsLot f fd) (LP : LibP mg) : FnOk P w K mg base CX0 2 f fd ["entries", "value"] (spIsLotX K) := by
  refine okN F scIsLot (fun vs H Q E h => ?_) (fun cdv A outer s H vs Q E hr h => ?_)
  · obtain ⟨_, _, _, rfl, _⟩ := h
    rfl
  · obtain ⟨n, xs, v, rfl, hn, h, k⟩ := h
    have hun := hr.un
    have hu2 : (A.deeper (envOfC "is_lot" (defScope sIsLot) s.heap.objs.size f cdv)).units + (1 + 1) < cLine := by omega
    rcases h with ⟨T, ty, nk⟩ | ⟨l, vs, os, rfl, hl, le, ho, na⟩
    · refine ⟨_, pss_cons (ps_if (pt_not (pt_val (pe_callB call_isi (by rfl) LP.isi (by decide +kernel) (pa_cons (pv 1) (pa_cons (pe_bltn (v := .ty "list") (by rfl) LP.list (by decide +kernel) rfl) pa_nil))))) (pss_one (ps_ret pe_bl)) pss_nil) pss_never, ?_⟩
      exact ⟨_, rfl, v, .ty "list", .type T, .type "list", false, rfl, .ty _, ty, kit_ty nk, false, rfl, iteT (k H (Same.refl H))⟩
    · refine ⟨_, pss_cons (ps_if (pt_not (pt_val (pe_callB call_isi (by rfl) LP.isi (by decide +kernel) (pa_cons (pv 1) (pa_cons (pe_bltn (v := .ty "list") (by rfl) LP.list (by decide +kernel) rfl) pa_nil))))) (pss_one ps_never) pss_nil)
        (pss_one (ps_ret (pe_and (pe_callB (cr_all rfl) (by rfl) LP.all (by decide +kernel) (pa_cons
            (pe_lc (own := [("name", 2)]) (g := gName 2) (tt := tYes) (te := tOp (rInW K 1) (tVar 2) (tVar 0)) rfl scIsLot.nd (pi_list (pv 1))
              (blkOk_by (N := ["entries", "value", "name"]) (sc := defScope sIsLot) (by decide +kernel)) (fun _ _ _ _ _ => pg_name (i := 2) scIsLot.nd rfl (Or.inl rfl)) (fun _ _ _ _ _ => pts_nil)
              (fun _ _ _ _ _ => pe_cmpR (op_inW (n := 1) hu2) (pv 2) (pv 0) (by rfl))) pa_nil))
          (pe_one pe_never)))), ?_⟩
      refine ⟨_, rfl, .ref l, .ty "list", .type "list", .type "list", true, rfl, .ty _, .base (.lst hl), kit_ty (by decide +kernel), true, rfl, iteF ?_⟩
      refine ⟨_, rfl, l, rfl, ⟨_, SqL.of hl⟩, fun D hD => lc_list (K := K) (a := l) (xs := vs) (fun i H' => H' D = some (.lst ((os.take i).map fun o => V.bl (inO xs o))) ∧ Same H H') ⟨upd_same, sn hD⟩ (fun i H' _ h => SqL.of (h.2 _ _ hl)) ?_ ?_⟩
      · rintro i y H' hi ⟨q1, q2⟩
        obtain ⟨o, ho1, r⟩ := ho.at hi
        obtain ⟨g, h1, h2⟩ := (r.same q2).inW xs
        refine ⟨rfl, _, rfl, _, rfl, n, xs, g, rfl, q2.seq hn, h1, _, q1, ?_, ?_, fun b o e => ?_⟩
        · refine small1000 ?_
          rw [List.length_map]
          have := List.length_take_le' i os
          have := ho.len
          omega
        · rw [upd_same, List.take_succ, ho1, List.map_append, h2]
          rfl
        · rw [upd_ne (ne_of_none e hD)]
          exact q2 _ _ e
      · rintro H' ⟨q1, q2⟩
        rw [ho.len, List.take_length] at q1
        refine ⟨D, os.map (inO xs), rfl, SqL.of (by rw [q1, List.map_map]; rfl), false, ?_, iteF (k H' q2)⟩
        rw [List.all_map]
        exact congrArg V.bl na
theorem ok_isFieldX {f fA : Addr} {fd fdA : FuncData} (F : FnP K "is_field" sIsField f fd) (L : Lib K mg) (FA : FnP K "is_lot" sIsLot fA fdA) (gA : mg "is_lot" = some (.ref fA)) (GA : FnOk P w K mg base CX0 2 fA fdA ["entries", "value"] (spIsLot K)) (GX : FnOk P w K mg base CX0 2 fA fdA ["entries", "value"] (spIsLotX K)) :
    FnOk P w K mg base CX0 3 f fd ["entries", "value"] (spIsFieldX K) := by
  have bA : Binds K fdA ["entries", "value"] [] := FA.bindsN fun _ _ _ _ _ _ us hl => match us, hl with | [_, _], _ => rfl
  refine okN F scIsField (fun vs H Q E h => ?_) (fun cdv A outer s H vs Q E hr h => ?_)
  · obtain ⟨_, _, _, rfl, _⟩ := h
    rfl
  · obtain ⟨n, xs, v, rfl, hn, h, k⟩ := h
    have go : ((∃ T : String, TyX K H v (.type T) ∧ kitB T "list" = some false) ∨ (∃ (l : Addr) (vs : List V) (os : List (Option Str)), v = .ref l ∧ H l = some (.lst vs) ∧ vs.length ≤ 60 ∧ RItL K H vs os ∧ os.all (inO xs) = false)) ∨
        ∃ (l : Addr) (zs : List Str), v = .ref l ∧ H l = some (.lst (zs.map V.str)) ∧ zs.length ≤ 60 ∧ (lotB xs zs && decide (0 < zs.length)) = false := by
      rcases h with h | h | h
      · exact .inl (.inl h)
      · exact .inl (.inr h)
      · exact .inr h
    rcases go with h | ⟨l, zs, rfl, hl, le, no⟩
    · refine ⟨_, pss_one (ps_ret (pe_and (pe_call GX hr (by rfl) gA FA.kp bA .nil pass0 (pa_cons (pv 0) (pa_cons (pv 1) pa_nil))) (pe_one pe_never))), ?_⟩
      exact ⟨_, rfl, _, rfl, n, xs, v, rfl, hn, h, fun H1 s1 => ⟨_, rfl, iteF (k H1 s1)⟩⟩
    · refine ⟨_, pss_one (ps_ret (pe_and (pe_call GA hr (by rfl) gA FA.kp bA .nil pass0 (pa_cons (pv 0) (pa_cons (pv 1) pa_nil))) (pe_one (pe_cmpR op_gt (pe_callB call_len_seq (by rfl) L.len PySem.boot_len (pa_cons (pv 1) pa_nil)) pe_int (nomark _))))), ?_⟩
      refine ⟨_, rfl, _, rfl, n, l, xs, zs, rfl, hn, hl, by omega, fun H1 s1 => ⟨_, rfl, ?_⟩⟩
      cases e : lotB xs zs with
      | false => exact iteF (k H1 s1)
      | true =>
        refine iteT ⟨_, rfl, l, _, rfl, .inl (SqL.of (s1 _ _ hl)), _, _, rfl, rfl, ?_⟩
        rw [List.length_map]
        rw [e, Bool.true_and] at no
        have z : ¬ 0 < zs.length := of_decide_eq_false no
        have e2 : decide ((0 : Int) < (zs.length : Int)) = false := decide_eq_false (by omega)
        show Q (.bl (decide ((0 : Int) < (zs.length : Int)))) H1
        rw [e2]
        exact k H1 s1
theorem ok_chkFX {f fA : Addr} {fd fdA : FuncData} (F : FnP K "check_field" sChkF f fd) (R : ErrC P w K mg base "InvalidField") (FA : FnP K "is_field" sIsField fA fdA) (gA : mg "is_field" = some (.ref fA)) (GX : FnOk P w K mg base CX0 3 fA fdA ["entries", "value"] (spIsFieldX K)) :
    FnOk P w K mg base (L2.CX P w) 4 f fd ["entries", "field"] (spChkFX K) := by
  have bA : Binds K fdA ["entries", "value"] [] := FA.bindsN fun _ _ _ _ _ _ us hl => match us, hl with | [_, _], _ => rfl
  refine F.ok scChkF (fun vs H Q E h => ?_) (fun cdv A outer s H vs Q E hr h => ?_)
  · obtain ⟨_, _, _, rfl, _⟩ := h
    rfl
  · obtain ⟨n, xs, v, rfl, hn, h, k⟩ := h
    have r2 : Room 2 (A.deeper (envOfC "check_field" (defScope sChkF) s.heap.objs.size f cdv)) := hr.mono (by decide)
    refine ⟨_, pss_one (ps_if (pt_not (pt_val (pe_call GX hr (by rfl) gA FA.kp bA .nil pass0 (pa_cons (pv 0) (pa_cons (pv 1) pa_nil))))) (pss_one (ps_raiseV rfl R r2 (takes_of rfl rfl rfl rfl) (by rfl) (pv 1))) pss_nil), ?_⟩
    exact ⟨_, rfl, _, rfl, n, xs, v, rfl, hn, h, fun H1 s1 => ⟨_, rfl, _, rfl, fun d H' s nd hd => k d H' (s1.trans s) (s1.free nd) hd⟩⟩
end
end G14

set_option maxHeartbeats 8000000
namespace G14
open PySem PySem.Spec PyProof.Rows L2 G1
def spIPF (K : PySem.W.Frag) (C : Addr) : Sp := fun vs H Q _ => ∃ (a b : Addr) (v : V) (xs : List Str) (rs ts : List (List Str)), vs = [.ref a, .ref b, v] ∧ PanF H C a xs rs ∧ PanF H C b xs ts ∧ Rw xs rs ∧ Rw xs ts ∧
  ((∃ (f : Addr) (fs : List Str), v = .ref f ∧ FieldAt H f xs fs ∧ ∀ H', Same H H' → Q (.bl (!sameC fs rs ts)) H') ∨ (OddF K H xs v ∧ ∀ H', Same H H' → Q (.bl false) H'))
section
variable {P : Program} {w : World} {K : PySem.W.Frag} {mg : Str → Option Value} {base : Heap} {C : Addr}
abbrev sIPF : Stmt := top 57
theorem scIPF : FnScope ["one", "other", "value"] ["one", "other", "value"] (defScope sIPF) := ⟨rfl, rfl, rfl, by decide +kernel, rfl, by decide +kernel, by decide +kernel⟩
theorem ok_iPF {f fF : Addr} {fd fdF : FuncData} (F : FnP K "is_parting_field" sIPF f fd) (N : PanP P w K mg base C) (DC : Df P w K mg base 2 "check_panels" sChkPs ["one", "other"] (spChkPs C)) (DK : Df P w K mg base 5 "cards" sCards ["panel", "field"] (spCards C))
    (FF : FnP K "is_field" sIsField fF fdF) (gF : mg "is_field" = some (.ref fF)) (GF : FnOk P w K mg base CX0 3 fF fdF ["entries", "value"] (spIsField K)) (GX : FnOk P w K mg base CX0 3 fF fdF ["entries", "value"] (spIsFieldX K)) :
    FnOk P w K mg base CX0 6 f fd ["one", "other", "value"] (spIPF K C) := by
  have bF : Binds K fdF ["entries", "value"] [] := FF.bindsN fun _ _ _ _ _ _ us hl => match us, hl with | [_, _], _ => rfl
  refine okN F scIPF (fun vs H Q E h => ?_) (fun cdv A outer s H vs Q E hr h => ?_)
  · obtain ⟨_, _, _, _, _, _, rfl, _⟩ := h
    rfl
  · obtain ⟨a, b, v, xs, rs, ts, rfl, pa, pb, wa, wb, h⟩ := h
    obtain ⟨dx, gs, fr1, fr2, fr3, fr4⟩ := id pa.fre
    have hu := hr.units
    have hu1 : (A.deeper (envOfC "is_parting_field" (defScope sIPF) s.heap.objs.size f cdv)).units + (0 + 1) < cLine := by omega
    have r1 : Room 1 (A.deeper (envOfC "is_parting_field" (defScope sIPF) s.heap.objs.size f cdv)) := hr.mono (by decide)
    have r2 : Room 2 (A.deeper (envOfC "is_parting_field" (defScope sIPF) s.heap.objs.size f cdv)) := hr.mono (by decide)
    have r3 : Room 3 (A.deeper (envOfC "is_parting_field" (defScope sIPF) s.heap.objs.size f cdv)) := hr.mono (by decide)
    rcases h with ⟨fl, fs, rfl, hf, k⟩ | ⟨hv, k⟩
    · refine ⟨_, pss_cons (ps_expr (pe_df DC r2 (by rfl) (pa_cons (pv 0) (pa_cons (pv 1) pa_nil))))
        (pss_one (ps_ret (pe_and (pe_call GF r3 (by rfl) gF FF.kp bF .nil pass0 (pa_cons (pe_mt (pv 0) N.cls N.en r1) (pa_cons (pv 2) pa_nil)))
          (pe_one (pe_cmpR (op_neW (n := 0) hu1) (pe_df DK hr (by rfl) (pa_cons (pv 0) (pa_cons (pv 2) pa_nil))) (pe_df DK hr (by rfl) (pa_cons (pv 1) (pa_cons (pv 2) pa_nil))) (nomark _)))))), ?_⟩
      refine ⟨_, rfl, _, rfl, a, b, xs, rs, ts, rfl, pa, pb, fun H1 s1 => ?_⟩
      refine ⟨_, rfl, a, dx, gs, rfl, s1 _ _ fr1, fr2, a, xs, rs, rfl, pa.at_.same s1, fun D H2 s2 nD hD => ?_⟩
      have s12 := s1.trans s2
      refine ⟨_, rfl, D, fl, xs, fs, rfl, SqL.of hD, s12 _ _ hf.at_, hf.le, fun H3 s3 => ⟨_, rfl, ?_⟩⟩
      have s13 := s12.trans s3
      rw [hf.lot, decide_eq_true hf.pos]
      refine iteT ⟨_, rfl, _, rfl, a, fl, xs, fs, rs, rfl, pa.same s13, hf.same s13, wa.pr, fun c1 E1 H4 s4 nE1 hE1 so1 nd1 mem1 _ => ?_⟩
      have s14 := s13.trans s4
      refine ⟨_, rfl, _, rfl, b, fl, xs, fs, ts, rfl, pb.same s14, hf.same s14, wb.pr, fun c2 E2 H5 s5 nE2 hE2 so2 nd2 mem2 _ => ?_⟩
      refine ⟨_, lists_strs (SqL.of (s5 _ _ hE1)) (SqL.of hE2), ?_⟩
      have fz : ∀ {us : List (List Str)}, (∀ r ∈ us, r.Perm xs) → ∀ r ∈ us, ∃ z, fst? fs r = some z := fun h r hr => hf.fst (h r hr)
      rw [same_dec so1 so2 nd1 nd2 (fun z => by rw [mem1, mem_fstD2 (fz wa.pr)]) fun z => by rw [mem2, mem_fstD2 (fz wb.pr)]]
      exact k H5 (s14.trans s5)
    · refine ⟨_, pss_cons (ps_expr (pe_df DC r2 (by rfl) (pa_cons (pv 0) (pa_cons (pv 1) pa_nil))))
        (pss_one (ps_ret (pe_and (pe_call GX r3 (by rfl) gF FF.kp bF .nil pass0 (pa_cons (pe_mt (pv 0) N.cls N.en r1) (pa_cons (pv 2) pa_nil)))
          (pe_one (pe_cmpR (op_neW (n := 0) hu1) (pe_df DK hr (by rfl) (pa_cons (pv 0) (pa_cons (pv 2) pa_nil))) (pe_df DK hr (by rfl) (pa_cons (pv 1) (pa_cons (pv 2) pa_nil))) (nomark _)))))), ?_⟩
      refine ⟨_, rfl, _, rfl, a, b, xs, rs, ts, rfl, pa, pb, fun H1 s1 => ?_⟩
      refine ⟨_, rfl, a, dx, gs, rfl, s1 _ _ fr1, fr2, a, xs, rs, rfl, pa.at_.same s1, fun D H2 s2 nD hD => ?_⟩
      have s12 := s1.trans s2
      exact ⟨_, rfl, D, xs, v, rfl, SqL.of hD, hv.same s12, fun H3 s3 => ⟨_, rfl, iteF (k H3 (s12.trans s3))⟩⟩
end
end G14

set_option maxHeartbeats 4000000
/-! name = {k: v for ..}, where the store and the comprehension stand in one row. -/
namespace G1
open PySem PySem.Spec PyProof.Rows L2
section
variable {X : Cx}
theorem ps_setDc {i : Nat} {y : Str} {py : Pos} {kx vx tg iter : Expr} {ifs : List Expr} {scope : Scope} {own : List (Str × Nat)} {pos spos : Pos} {wi : TI} {g : TG} {tt : TT} {tk tv : TE} (hc : X.calm = true) (hN : X.N.Nodup) (hy : X.N[i]? = some y) (hyl : X.env.scope.names.lookup y = some .local)
    (hsw : swapsWith (.DictComp kx vx [⟨tg, iter, ifs, 0⟩] scope pos) (some (.Name y py)) spos.line X.env = pure true) (hi : PI X tg iter wi) (ok : BlkOk X.N X.env.scope scope own)
    (hg : ∀ (s : Shared) (H : Hp) (C : Addr) (cl : List (Str × Addr)) (fp : List Addr), PG (X.blk s H scope (compEnvC scope cl C X.env) fp) tg g) (ht : ∀ (s : Shared) (H : Hp) (C : Addr) (cl : List (Str × Addr)) (fp : List Addr), PTs (X.blk s H scope (compEnvC scope cl C X.env) fp) ifs tt)
    (hk : ∀ (s : Shared) (H : Hp) (C : Addr) (cl : List (Str × Addr)) (fp : List Addr), PE (X.blk s H scope (compEnvC scope cl C X.env) fp) kx tk)
    (he : ∀ (s : Shared) (H : Hp) (C : Addr) (cl : List (Str × Addr)) (fp : List Addr), PE (X.blk s H scope (compEnvC scope cl C X.env) fp) vx tv) (hs : ∀ x, foldedSetIterable iter X.env x = pure x := by intro _; rfl) :
    PS X (.Assign [.Name y py] (.DictComp kx vx [⟨tg, iter, ifs, 0⟩] scope pos) spos) (tAsg (tDc wi g tt tk tv (own.map (·.2))) (gName i)) := by
  refine ⟨fun pins s σ H D I h => ?_⟩
  rw [exec_Assign_Name_used _ _ _ _ hsw]
  refine wpAny_bind (wpAny_standAt (wpAny_bind ?_))
  show wpAny _ X.A (do let _ ← comprehension (.DictComp kx vx [⟨tg, iter, ifs, 0⟩] scope pos) scope X.env (firstIterPos [⟨tg, iter, ifs, 0⟩] pos) newDict false (eval iter X.env) (some (assign (.Name y py) X.env))) _ _ s
  have h2 : tDc wi g tt tk tv (own.map (·.2)) σ H (fun x H1 => gName i x σ H1 D.nx) := h
  refine wpAny_bind (thn (dc_core (Qf := fun _ s' => SP X pins D .next s') hc hN I hi ok hg ht hk he hs h2 fun L C s' m H' I' q hn f => ?_) fun _ s' hq => wpAny_pure (wpAny_pure hq))
  show wpAny _ _ (assign (.Name y py) X.env (.ref L)) _ _ _
  obtain ⟨f0, f1, f2, f3, f4, f5⟩ := f
  refine wpAny_assign_Name (store_ok2 (v := V.ref L) I' hN hy (.inl hyl) rfl (fun s2 I2 ⟨a, sb, ha⟩ => ?_) (.inr hyl))
  have ne : C ≠ a := ha.elim (fun z => by rw [z]; exact f1) fun z e => f4 y a z e.symm
  exact ⟨m, hn.sameBut sb ne, fun h3 sb3 => ⟨_, H', I2.turned (t' := s2.toks) (fun b o hb e => (sb3.2 b hb).trans e) f0 f1 f3 f4 f5, q⟩⟩
theorem sw_trueD {kx vx : Expr} {gs : List Comprehension} {scope : Scope} {pos py : Pos} {y : Str} {l : Nat} {env : Env} (hk : env.scope.kind = .function) (hy : env.scope.names.lookup y = some .local) (hl : (py.line == pos.line) = true)
    (ha : (scope.names.any fun (n, k) => n == y && (k == .local || k == .cell)) = false) : swapsWith (.DictComp kx vx gs scope pos) (some (.Name y py)) l env = pure true := by
  have ky : env.kindOf y = some .local := hy
  have hb : env.blockKind = .function := by unfold Env.blockKind; rw [hk]; rfl
  unfold swapsWith
  simp only [hb, ky, ha, Expr.pos, hl]
  rfl
end
end G1

set_option maxHeartbeats 8000000
namespace G14
open PySem PySem.Spec PyProof.Rows L2 G1
/-- all of these together -/
def orM (zs : List Nat) : Nat := zs.foldl (· ||| ·) 0
theorem orM_snoc {zs : List Nat} {z : Nat} : orM (zs ++ [z]) = orM zs ||| z := by
  unfold orM
  rw [List.foldl_append]
  rfl
theorem orM_bit {zs : List Nat} {i : Nat} : (orM zs).testBit i = true ↔ ∃ z ∈ zs, z.testBit i = true := by
  have q : ∀ (zs : List Nat) (a : Nat), (zs.foldl (· ||| ·) a).testBit i = true ↔ a.testBit i = true ∨ ∃ z ∈ zs, z.testBit i = true := fun zs => by
    induction zs with
    | nil => exact fun a => ⟨.inl, fun h => h.elim id fun ⟨_, h, _⟩ => nomatch h⟩
    | cons y ys ih =>
      intro a
      rw [List.foldl_cons, ih, Nat.testBit_or, Bool.or_eq_true]
      constructor
      · rintro ((h | h) | ⟨z, hz, h⟩)
        · exact .inl h
        · exact .inr ⟨y, .head _, h⟩
        · exact .inr ⟨z, .tail _ hz, h⟩
      · rintro (h | ⟨z, hz, h⟩)
        · exact .inl (.inl h)
        · rcases List.mem_cons.mp hz with rfl | hz
          · exact .inl (.inr h)
          · exact .inr ⟨z, hz, h⟩
  unfold orM
  rw [q]
  exact ⟨fun h => h.elim (fun h => by rw [Nat.zero_testBit] at h; cases h) id, .inr⟩
theorem dN_set : ∀ {xs : List Str} {f : Str → V} {x : Str} {v : V}, x ∈ xs → putK (dN xs f) (.inr x) v = dN xs fun y => if y = x then v else f y := fun {xs f x v} h => by
  unfold putK
  have a : ((dN xs f).any fun kv => decide (kv.1 = (.inr x : Key))) = true := by
    rw [valV_any, dN_val h]
    rfl
  rw [if_pos a]
  unfold dN
  rw [List.map_map]
  refine List.map_congr_left fun y _ => ?_
  show (if (Sum.inr y : Key) = .inr x then ((.inr y : Key), v) else ((.inr y : Key), f y)) = ((.inr y : Key), if y = x then v else f y)
  by_cases e : y = x
  · subst e
    rw [if_pos rfl, if_pos rfl]
  · rw [if_neg fun q => e (Sum.inr.inj q), if_neg e]
/-- who is ahead of a name in some row -/
def onceM (xs : List Str) (rs : List (List Str)) (x : Str) : Nat := orM (rs.map fun r => aheadM xs r x)
def onceP (xs : List Str) (rs : List (List Str)) (r : List Str) (j : Nat) (x : Str) : Nat := onceM xs rs x ||| (if x ∈ r.take j then aheadM xs r x else 0)
theorem onceP_zero {xs r : List Str} {rs : List (List Str)} {x : Str} : onceP xs rs r 0 x = onceM xs rs x := by
  unfold onceP
  rw [if_neg (fun h => nomatch h), Nat.or_zero]
theorem onceP_all {xs r : List Str} {rs : List (List Str)} {x : Str} {j : Nat} (h : x ∈ r.take j) : onceP xs rs r j x = onceM xs (rs ++ [r]) x := by
  unfold onceP onceM
  rw [if_pos h, List.map_append, List.map_cons, List.map_nil, orM_snoc]
theorem onceP_step {xs r : List Str} {rs : List (List Str)} {z : Str} {j : Nat} (nr : r.Nodup) (h : r[j]? = some z) : (fun y => if y = z then V.int (Builtin.bitOr ((onceP xs rs r j z : Nat) : Int) ((aheadM xs r z : Nat) : Int)) else V.int ((onceP xs rs r j y : Nat) : Int)) = fun y => V.int ((onceP xs rs r (j + 1) y : Nat) : Int) := by
  funext y
  have lj := (List.getElem?_eq_some_iff.mp h).1
  have ez := (List.getElem?_eq_some_iff.mp h).2
  have nz : z ∉ r.take j := fun q => by
    obtain ⟨i, hi, e⟩ := List.mem_iff_getElem.mp q
    rw [List.length_take] at hi
    rw [List.getElem_take] at e
    exact List.pairwise_iff_getElem.mp nr i j (by omega) lj (by omega) (e.trans ez.symm)
  have tk : r.take (j + 1) = r.take j ++ [z] := by
    rw [List.take_succ, h]
    rfl
  by_cases e : y = z
  · subst e
    rw [if_pos rfl, bor_nat]
    unfold onceP
    rw [if_neg nz, Nat.or_zero, tk, if_pos (List.mem_append.mpr (.inr (.head _)))]
  · rw [if_neg e]
    unfold onceP
    rw [tk]
    by_cases q : y ∈ r.take j
    · rw [if_pos q, if_pos (List.mem_append.mpr (.inl q))]
    · rw [if_neg q, if_neg fun c => (List.mem_append.mp c).elim q fun c => e (List.mem_singleton.mp c)]
def onceV (xs : List Str) (rs : List (List Str)) (x : Str) : V := .int ((onceM xs rs x : Nat) : Int)
def spUnited : Sp := fun vs H Q _ => ∃ (a : Addr) (zs : List Nat), vs = [.ref a] ∧ H a = some (.lst (mskV zs)) ∧ Q (.int ((orM zs : Nat) : Int)) H
def spOnce (C : Addr) : Sp := fun vs H Q _ => ∃ (a : Addr) (xs : List Str) (rs : List (List Str)), vs = [.ref a] ∧ PanF H C a xs rs ∧ Rw xs rs ∧ ∀ (D : Addr) (H' : Hp), Same H H' → H D = none → H' D = some (.dK (dN xs (onceV xs rs))) → Q (.ref D) H'
section
variable {P : Program} {w : World} {K : PySem.W.Frag} {mg : Str → Option Value} {base : Heap} {C : Addr}
abbrev sUnited : Stmt := top 27
abbrev nUnited : List Str := ["masks", "found", "mask"]
theorem scUnited : FnScope nUnited ["masks"] (defScope sUnited) := ⟨rfl, rfl, rfl, by decide +kernel, rfl, by decide +kernel, by decide +kernel⟩
theorem ok_united {f : Addr} {fd : FuncData} (F : FnP K "united" sUnited f fd) : FnOk P w K mg base CX0 1 f fd ["masks"] spUnited := by
  refine okN F scUnited (fun vs H Q E h => ?_) (fun cdv A outer s H vs Q E hr h => ?_)
  · obtain ⟨_, _, rfl, _⟩ := h
    rfl
  · obtain ⟨a, zs, rfl, ha, k⟩ := h
    have nd := scUnited.nd
    refine ⟨_, pss_cons (ps_set (i := 1) nd rfl (Or.inl rfl) pe_int) (pss_cons (ps_for PassesOwn.never rfl (pi_list (pv 0)) (pg_name (i := 2) nd rfl (Or.inl rfl))
      (pss_one (ps_set (i := 1) nd rfl (Or.inl rfl) (pe_op op_or (pv 1) (pv 2))))) (pss_one (ps_ret (pv 1)))), ?_⟩
    refine ⟨_, rfl, a, rfl, ⟨_, SqL.of ha⟩, for_list (K := K) (a := a) (xs := mskV zs) (fun i σ H' => ∃ o2 : Option V, σ = [some (.ref a), some (.int ((orM (zs.take i) : Nat) : Int)), o2] ∧ H' = H)
      ⟨none, rfl, rfl⟩ (fun i σ H' _ h => by obtain ⟨_, _, rfl⟩ := h; exact SqL.of ha) ?_ ?_⟩
    · rintro i y σ H1 hi ⟨o2, rfl, rfl⟩
      unfold mskV at hi
      rw [List.getElem?_map] at hi
      obtain ⟨z, hz, rfl⟩ := Option.map_eq_some_iff.mp hi
      refine ⟨_, rfl, _, rfl, _, _, rfl, rfl, some (.int ((z : Nat) : Int)), ?_, rfl⟩
      rw [List.take_succ, hz]
      show _ = [_, some (V.int ((orM (zs.take i ++ [z]) : Nat) : Int)), _]
      rw [orM_snoc, ← bor_nat]
      rfl
    · rintro σ H1 ⟨o2, rfl, rfl⟩
      refine ⟨_, rfl, ?_⟩
      unfold mskV
      rw [List.length_map, List.take_length]
      exact k
end
section
variable {P : Program} {w : World} {K : PySem.W.Frag} {mg : Str → Option Value} {base : Heap} {C : Addr}
abbrev sOnce : Stmt := top 60
abbrev nOnce : List Str := ["panel", "found", "masks", "name", "mask"]
theorem scOnce : FnScope nOnce ["panel"] (defScope sOnce) := ⟨rfl, rfl, rfl, by decide +kernel, rfl, by decide +kernel, by decide +kernel⟩
theorem ok_once {f : Addr} {fd : FuncData} (F : FnP K "once_ahead" sOnce f fd) (N : PanP P w K mg base C) (DA : Df P w K mg base 2 "ahead_masks" sAMs ["panel"] (spAMs C)) : FnOk P w K mg base CX0 3 f fd ["panel"] (spOnce C) := by
  refine okN F scOnce (fun vs H Q E h => ?_) (fun cdv A outer s H vs Q E hr h => ?_)
  · obtain ⟨_, _, _, rfl, _⟩ := h
    rfl
  · obtain ⟨a, xs, rs, rfl, pan, g, k⟩ := h
    have hun := hr.un
    have nd := scOnce.nd
    have hu1 : (A.deeper (envOfC "once_ahead" (defScope sOnce) s.heap.objs.size f cdv)).units + 1 < cLine := by omega
    have r1 : Room 1 (A.deeper (envOfC "once_ahead" (defScope sOnce) s.heap.objs.size f cdv)) := hr.mono (by decide)
    have r2 : Room 2 (A.deeper (envOfC "once_ahead" (defScope sOnce) s.heap.objs.size f cdv)) := hr.mono (by decide)
    obtain ⟨dx, gs, fr1, fr2, fr3, fr4⟩ := id pan.fre
    refine ⟨_, pss_cons (ps_setDc (i := 1) (own := [("name", 3)]) (g := gName 3) (tt := tYes) (tk := tVar 3) (tv := tC (.int 0)) (by rfl) nd rfl rfl (sw_trueD rfl rfl rfl (by decide +kernel)) (pi_list (pe_mt (pv 0) N.cls N.en r1))
        (blkOk_by (N := nOnce) (sc := defScope sOnce) (by decide +kernel)) (fun _ _ _ _ _ => pg_name (i := 3) scOnce.nd rfl (Or.inl rfl)) (fun _ _ _ _ _ => pts_nil) (fun _ _ _ _ _ => pv 3) (fun _ _ _ _ _ => pe_int))
      (pss_cons (ps_for PassesOwn.never rfl (pi_list (pe_df DA hr (by rfl) (pa_cons (pv 0) pa_nil))) (pg_name (i := 2) nd rfl (Or.inl rfl))
        (pss_one (ps_lock (ps_for PassesOwn.never rfl (pi_items (pv 2)) (pg_tup (n := 2) (by rfl) (pgs_cons (pg_name (i := 3) nd rfl (Or.inl rfl)) (pgs_cons (pg_name (i := 4) nd rfl (Or.inl rfl)) pgs_nil)))
          (pss_one (ps_dput hu1 (pv 1) (pv 3) (pe_op op_or (pe_dget hu1 (pv 1) (pv 3) (fun _ _ => rfl)) (pv 4)) (by rfl)))))))
      (pss_one (ps_ret (pv 1)))), ?_⟩
    refine ⟨_, rfl, a, dx, gs, rfl, fr1, fr2, a, xs, rs, rfl, pan.at_, fun E1 H1 s1 nE1 hE1 => ⟨E1, rfl, ⟨_, SqL.of hE1⟩, fun D nD => dc_names (f := fun _ => V.int 0) hE1 g.nd (by have := g.le; omega) nD (fun _ => rfl) (fun x H' Qk hx s' kk => ⟨_, rfl, kk H' (Same.refl _)⟩) (fun x H' Qk hx s' kk => kk H' (Same.refl _)) fun H2 hD2 s2 => ?_⟩⟩
    have s12 := s1.trans s2
    refine ⟨_, rfl, a, xs, rs, rfl, pan.same s12, g, fun Ld ds H3 s3 nLd hLd hds nds => ?_⟩
    have s13 := s12.trans s3
    have hD3 := s3 _ _ hD2
    have nLD : Ld ≠ D := Ne.symm (ne_of_none hD2 nLd)
    have ndD : ∀ d ∈ ds, d ≠ D := fun d hd => Ne.symm (ne_of_none hD2 (nds d hd).1)
    have nDH := s1.free nD
    refine ⟨Ld, rfl, ⟨_, SqL.of hLd⟩, for_list (K := K) (a := Ld) (xs := ds.map V.ref) (fun i σ H' => ∃ o2 o3 o4 : Option V, σ = [some (.ref a), some (.ref D), o2, o3, o4] ∧ But D H3 H' ∧ H' D = some (.dK (dN xs fun x => V.int ((onceM xs (rs.take i) x : Nat) : Int))))
      ⟨none, none, none, rfl, But.refl _ _, hD3⟩ (fun i σ H' _ h => by obtain ⟨_, _, _, _, h, _⟩ := h; exact SqL.of (h _ _ nLD hLd)) ?_ ?_⟩
    · rintro i y σ H4 hi ⟨o2, o3, o4, rfl, b4, hD4⟩
      rw [List.getElem?_map] at hi
      obtain ⟨d, hd, rfl⟩ := Option.map_eq_some_iff.mp hi
      obtain ⟨r, o, hr1, hr2, rfl⟩ := hds.at hd
      have nd1 := ndD d (List.mem_of_getElem? hd)
      have rp := g.pr r (List.mem_of_getElem? hr1)
      have nr := rp.nodup_iff.mpr g.nd
      refine ⟨d, .dK (dN r (aheadV xs r)), b4 _ _ nd1 hr2, trivial, fun od => ?_⟩
      have keep : ∀ (c : Addr) (o : HO), c ≠ d → c ≠ D → H3 c = some o → upd H4 d (.frz od (.dK (dN r (aheadV xs r)))) c = some o := fun c o n n2 e => by rw [upd_ne n]; exact b4 _ _ n2 e
      have fz : upd H4 d (.frz od (.dK (dN r (aheadV xs r)))) d = some (.frz od (.dK (dN r (aheadV xs r)))) := upd_same
      have hD5 : upd H4 d (.frz od (.dK (dN r (aheadV xs r)))) D = some (.dK (dN xs fun x => V.int ((onceP xs (rs.take i) r 0 x : Nat) : Int))) := by
        rw [upd_ne (Ne.symm nd1), hD4]
        simp only [onceP_zero]
      generalize upd H4 d (.frz od (.dK (dN r (aheadV xs r)))) = H5 at keep fz hD5 ⊢
      refine ⟨_, rfl, d, od, dN r (aheadV xs r), rfl, fz, for_it (walk_items (d := d) (o := od) (kvs := dN r (aheadV xs r))) (fun j σ H' => ∃ o3 o4 : Option V, σ = [some (.ref a), some (.ref D), some (.ref d), o3, o4] ∧ H' d = some (.frz od (.dK (dN r (aheadV xs r)))) ∧ (∀ (c : Addr) (o : HO), c ≠ d → c ≠ D → H3 c = some o → H' c = some o) ∧ H' D = some (.dK (dN xs fun x => V.int ((onceP xs (rs.take i) r j x : Nat) : Int))))
        ⟨o3, o4, rfl, fz, keep, hD5⟩ (fun j σ H' _ h => by obtain ⟨_, _, _, h, _⟩ := h; exact h) ?_ ?_⟩
      · rintro j x2 σ H7 H8 hj ⟨o3, o4, rfl, f7, k7, hD7⟩ ⟨T2, u2, v2, rfl, nT2, rfl, eu2, ev2⟩
        dsimp only at eu2 ev2
        unfold dN at eu2 ev2
        rw [List.getElem?_map] at eu2 ev2
        have lj : j < r.length := by rw [dN_len] at hj; exact hj
        have ez : r[j]? = some r[j] := List.getElem?_eq_getElem lj
        rw [ez] at eu2 ev2
        obtain rfl : V.str r[j] = u2 := Option.some.inj eu2
        obtain rfl : aheadV xs r r[j] = v2 := Option.some.inj ev2
        generalize hz : r[j] = z at ez ⊢
        have zr := List.mem_of_getElem? ez
        have zx : z ∈ xs := rp.mem_iff.mp zr
        have hT2 := upd_same (a := T2) (o := HO.tup [V.str z, aheadV xs r z]) (H := H7)
        have s8 := sn nT2 (o := .tup [V.str z, aheadV xs r z])
        generalize upd H7 T2 (.tup [V.str z, aheadV xs r z]) = H8 at s8 hT2 ⊢
        have f8 := s8 _ _ f7
        have hD8 := s8 _ _ hD7
        refine ⟨T2, _, rfl, SqT.of hT2, rfl, _, _, rfl, _, _, rfl, rfl, ?_⟩
        refine ⟨_, rfl, _, rfl, D, _, rfl, dN_get hD8 zx, _, rfl, _, _, rfl, rfl, _, rfl, _, rfl, D, _, rfl, .inl ⟨_, .inr z, hD8, rfl, small1000 (by rw [dN_len]; have := g.le; omega), rfl⟩, ?_⟩
        rw [dN_set zx]
        refine ⟨_, _, rfl, by rw [upd_ne nd1]; exact f8, fun c o n n2 e => by rw [upd_ne n2]; exact s8 _ _ (k7 c o n n2 e), ?_⟩
        rw [upd_same, ← onceP_step nr ez]
      · rintro σ H7 ⟨o3, o4, rfl, f7, k7, hD7⟩
        rw [dN_len] at hD7
        refine ⟨f7, _, _, _, rfl, fun c o n e => ?_, ?_⟩
        · by_cases q : c = d
          · subst q
            rw [upd_same]
            rw [hr2] at e
            exact e
          · rw [upd_ne q]
            exact k7 c o q n e
        · rw [upd_ne (Ne.symm nd1), hD7, List.take_succ, hr1]
          refine congrArg (fun z => some (HO.dK z)) ?_
          unfold dN
          refine List.map_congr_left fun x hx => ?_
          have q := onceP_all (xs := xs) (rs := rs.take i) (r := r) (x := x) (j := r.length) (by rw [List.take_length]; exact rp.mem_iff.mpr hx)
          show ((Sum.inr x : Key), V.int ((onceP xs (rs.take i) r r.length x : Nat) : Int)) = (.inr x, V.int ((onceM xs (rs.take i ++ [r]) x : Nat) : Int))
          rw [q]
    · rintro σ H4 ⟨o2, o3, o4, rfl, b4, hD4⟩
      rw [List.length_map, hds.len, List.take_length] at hD4
      exact ⟨_, rfl, k D H4 (fun b o e => b4 b o (ne_of_none e nDH) (s13 b o e)) nDH hD4⟩
end
end G14

set_option maxHeartbeats 8000000
namespace G14
open PySem PySem.Spec PyProof.Rows L2 G1
/-- any walk, with any body: the loops of [.. for .. for ..] -/
theorem loop_it {J : It} {n : Nat} {G : Hp → Prop} {Y : Nat → Hp → V → Hp → Prop} (w : Walk J n G Y) {B : V → Hp → (Hp → Prop) → Prop} {H1 : Hp} {Qd : Hp → Prop} (Pv : Nat → Hp → Prop) (h0 : Pv 0 H1) (hG : ∀ i H, i ≤ n → Pv i H → G H)
    (hs : ∀ i x H H', i < n → Pv i H → Y i H x H' → B x H' (Pv (i + 1))) (hd : ∀ H, Pv n H → Qd H) :
    ∃ W : Nat → Nat → Hp → Prop, (∃ m, W 0 m H1) ∧ ∀ i m H, W i m H → (J.stop i H ∧ Qd H) ∨ (J.go i H ∧ ∃ Nx : Hp → Prop, (∀ H', Nx H' → ∃ m', m' < m ∧ W (i + 1) m' H') ∧ ∀ x H', J.yld i H x H' → B x H' Nx) := by
  refine ⟨fun i m H => m = n - i ∧ i ≤ n ∧ Pv i H, ⟨n, rfl, Nat.zero_le _, h0⟩, ?_⟩
  rintro i m H ⟨rfl, hi, p⟩
  by_cases lt : i < n
  · exact .inr ⟨w.goes i H lt (hG i H hi p), Pv (i + 1), fun H' q => ⟨n - (i + 1), by omega, rfl, lt, q⟩, fun x H' y => hs i x H H' lt p (w.yields i H x H' lt (hG i H hi p) y)⟩
  · obtain rfl : i = n := by omega
    exact .inl ⟨w.stops H (hG _ H hi p), hd H p⟩
theorem cut_from {xs : List V} {n : Nat} (h : n ≤ xs.length) : cutV xs (some (n : Int)) none = xs.drop n := by
  have e : HT.sIx xs.length 0 (some (n : Int)) = n := by
    rw [HT.sIx_nat]
    omega
  unfold cutV
  rw [e, show HT.sIx xs.length xs.length none = xs.length from rfl]
  exact List.take_of_length_le (by rw [List.length_drop]; exact Nat.le_refl _)
/-- ahead once in one, never in the other -/
def chgB (xs : List Str) (rs ts : List (List Str)) (x y : Str) : Bool := (onceM xs rs x ^^^ onceM xs ts x).testBit (xs.idxOf y)
def chgV (xs : List Str) (rs ts : List (List Str)) (x : Str) : V := .int (Builtin.bitXor ((onceM xs rs x : Nat) : Int) ((onceM xs ts x : Nat) : Int))
def pairB (xs : List Str) (rs ts : List (List Str)) (x y : Str) : Bool := chgB xs rs ts x y || chgB xs rs ts y x
def pairsAt (p : Str → Str → Bool) (xs : List Str) (i k : Nat) : List (List Str) := match xs[i]? with
  | some x => (((xs.drop (i + 1)).take k).filter (p x)).map fun y => [x, y]
  | none => []
/-- the pairs that p holds of, the first of each before the place i -/
def pairsTo (p : Str → Str → Bool) (xs : List Str) (i : Nat) : List (List Str) := (List.range i).flatMap fun a => pairsAt p xs a xs.length
theorem pairsTo_succ {p : Str → Str → Bool} {xs : List Str} {i : Nat} : pairsTo p xs (i + 1) = pairsTo p xs i ++ pairsAt p xs i xs.length := by
  unfold pairsTo
  rw [List.range_succ, List.flatMap_append, List.flatMap_cons, List.flatMap_nil, List.append_nil]
theorem pairsAt_step {p : Str → Str → Bool} {xs : List Str} {i k : Nat} {x y : Str} (hx : xs[i]? = some x) (hy : (xs.drop (i + 1))[k]? = some y) : pairsAt p xs i (k + 1) = pairsAt p xs i k ++ (if p x y = true then [[x, y]] else []) := by
  unfold pairsAt
  rw [hx]
  dsimp only
  rw [List.take_succ, hy, List.filter_append, List.map_append]
  congr 1
  show (List.filter (p x) [y]).map (fun y => [x, y]) = _
  cases e : p x y with
  | true => rw [List.filter_cons_of_pos e, if_pos rfl]; rfl
  | false => rw [List.filter_cons_of_neg (by rw [e]; decide), if_neg Bool.false_ne_true]; rfl
theorem pairsAt_all {p : Str → Str → Bool} {xs : List Str} {i : Nat} : pairsAt p xs i (xs.drop (i + 1)).length = pairsAt p xs i xs.length := by
  unfold pairsAt
  cases xs[i]? with
  | none => rfl
  | some x =>
    dsimp only
    rw [List.take_length, List.take_of_length_le (by rw [List.length_drop]; omega)]
theorem pairsAt_len {p : Str → Str → Bool} {xs : List Str} {i k : Nat} : (pairsAt p xs i k).length ≤ xs.length := by
  unfold pairsAt
  cases xs[i]? with
  | none => exact Nat.zero_le _
  | some x =>
    dsimp only
    rw [List.length_map]
    refine Nat.le_trans (List.length_filter_le _ _) ?_
    rw [List.length_take, List.length_drop]
    omega
theorem pairsTo_len {p : Str → Str → Bool} {xs : List Str} : ∀ {i : Nat}, (pairsTo p xs i).length ≤ i * xs.length
  | 0 => Nat.zero_le _
  | i + 1 => by
    rw [pairsTo_succ, List.length_append, Nat.succ_mul]
    have := pairsTo_len (p := p) (xs := xs) (i := i)
    have := pairsAt_len (p := p) (xs := xs) (i := i) (k := xs.length)
    omega
theorem pairs_mem {p : Str → Str → Bool} {xs : List Str} {i : Nat} {l : List Str} : l ∈ pairsTo p xs i ↔ ∃ a x y, a < i ∧ xs[a]? = some x ∧ y ∈ xs.drop (a + 1) ∧ p x y = true ∧ l = [x, y] := by
  unfold pairsTo
  rw [List.mem_flatMap]
  constructor
  · rintro ⟨a, ha, h⟩
    unfold pairsAt at h
    cases e : xs[a]? with
    | none => rw [e] at h; cases h
    | some x =>
      rw [e] at h
      obtain ⟨y, hy, rfl⟩ := List.mem_map.mp h
      obtain ⟨h1, h2⟩ := List.mem_filter.mp hy
      exact ⟨a, x, y, List.mem_range.mp ha, e, List.mem_of_mem_take h1, h2, rfl⟩
  · rintro ⟨a, x, y, ha, hx, hy, hp, rfl⟩
    refine ⟨a, List.mem_range.mpr ha, ?_⟩
    unfold pairsAt
    rw [hx]
    dsimp only
    rw [List.take_of_length_le (by rw [List.length_drop]; omega)]
    exact List.mem_map.mpr ⟨y, List.mem_filter.mpr ⟨hy, hp⟩, rfl⟩
theorem pairsAt_zero {p : Str → Str → Bool} {xs : List Str} {i : Nat} : pairsAt p xs i 0 = [] := by
  unfold pairsAt
  cases xs[i]? <;> rfl
theorem chg_tru {xs : List Str} {rs ts : List (List Str)} {x y : Str} : (Builtin.bitAnd (Builtin.bitXor ((onceM xs rs x : Nat) : Int) ((onceM xs ts x : Nat) : Int)) ((2 ^ xs.idxOf y : Nat) : Int) != 0) = chgB xs rs ts x y := by
  rw [Bits.bitXor_pp (by omega) (by omega), Int.toNat_natCast, Int.toNat_natCast, band_nat, Nat.and_comm, ← band_nat]
  exact bit_ne
/-- the places of the pairs are new, and each its own -/
structure FrAt (H : Hp) (D : Addr) (H' : Hp) (cs : List Addr) (ls : List (List Str)) : Prop where
  at_ : RowsAt H' cs ls
  new : ∀ c ∈ cs, H c = none ∧ c ≠ D
  nd : cs.Nodup
def spPPairs (C : Addr) : Sp := fun vs H Q _ => ∃ (a b : Addr) (xs : List Str) (rs ts : List (List Str)), vs = [.ref a, .ref b] ∧ PanF H C a xs rs ∧ PanF H C b xs ts ∧ Rw xs rs ∧ Rw xs ts ∧ xs.length ≤ 30 ∧
  ∀ (D : Addr) (cs : List Addr) (H' : Hp), Same H H' → H D = none → H' D = some (.lst (cs.map V.ref)) → FrAt H D H' cs (pairsTo (pairB xs rs ts) xs xs.length) → Q (.ref D) H'
section
variable {P : Program} {w : World} {K : PySem.W.Frag} {mg : Str → Option Value} {base : Heap} {C : Addr}
abbrev sPPairs : Stmt := top 61
abbrev nPPairs : List Str := ["one", "other", "names", "bits", "ours", "theirs", "changed", "name", "at", "low", "high"]
theorem scPPairs : FnScope nPPairs ["one", "other"] (defScope sPPairs) := ⟨rfl, rfl, rfl, by decide +kernel, rfl, by decide +kernel, by decide +kernel⟩
theorem ok_pPairs {f : Addr} {fd : FuncData} (F : FnP K "parting_pairs" sPPairs f fd) (N : PanP P w K mg base C) (le : mg "enumerate" = none) (DC : Df P w K mg base 2 "check_panels" sChkPs ["one", "other"] (spChkPs C)) (DB : Df P w K mg base 1 "bits_of" sBits ["entries"] spBits)
    (DO : Df P w K mg base 3 "once_ahead" sOnce ["panel"] (spOnce C)) : FnOk P w K mg base CX0 4 f fd ["one", "other"] (spPPairs C) := by
  refine okN F scPPairs (fun vs H Q E h => ?_) (fun cdv A outer s H vs Q E hr h => ?_)
  · obtain ⟨_, _, _, _, _, rfl, _⟩ := h
    rfl
  · obtain ⟨a, b, xs, rs, ts, rfl, pa, pb, ga, gb, l30, k⟩ := h
    have hun := hr.un
    have nd := scPPairs.nd
    have hu1 : (A.deeper (envOfC "parting_pairs" (defScope sPPairs) s.heap.objs.size f cdv)).units + 1 < cLine := by omega
    have r1 : Room 1 (A.deeper (envOfC "parting_pairs" (defScope sPPairs) s.heap.objs.size f cdv)) := hr.mono (by decide)
    have r2 : Room 2 (A.deeper (envOfC "parting_pairs" (defScope sPPairs) s.heap.objs.size f cdv)) := hr.mono (by decide)
    obtain ⟨dx, gs, fr1, fr2, fr3, fr4⟩ := id pa.fre
    refine' ⟨_, pss_cons (ps_expr (pe_df DC r2 (by rfl) (pa_cons (pv 0) (pa_cons (pv 1) pa_nil)))) (pss_cons ?b0 (pss_cons ?b1 (pss_cons ?b2 (pss_one ?b3)))), ?_⟩
    case b0 => exact (ps_asg (pe_tup (pa_cons (pe_mt (pv 0) N.cls N.en r1) (pa_cons (pe_df DB r1 (by rfl) (pa_cons (pe_mt (pv 0) N.cls N.en r1) pa_nil)) pa_nil))) (pg_tup (n := 2) (by rfl) (pgs_cons (pg_name (i := 2) nd rfl (Or.inr rfl)) (pgs_cons (pg_name (i := 3) nd rfl (Or.inr rfl)) pgs_nil))))
    case b1 => exact (ps_asg (pe_tup (pa_cons (pe_df DO hr (by rfl) (pa_cons (pv 0) pa_nil)) (pa_cons (pe_df DO hr (by rfl) (pa_cons (pv 1) pa_nil)) pa_nil))) (pg_tup (n := 2) (by rfl) (pgs_cons (pg_name (i := 4) nd rfl (Or.inr rfl)) (pgs_cons (pg_name (i := 5) nd rfl (Or.inr rfl)) pgs_nil))))
    case b2 => exact (ps_set (i := 6) nd rfl (Or.inr rfl) (pe_dc (own := [("name", 7)]) (g := gName 7) (tt := tYes) (tk := tVar 7) (tv := tOp (rI0 fun i j => .int (Builtin.bitXor i j)) (tDGet (tVar 4) (tVar 7)) (tDGet (tVar 5) (tVar 7))) rfl nd (pi_list (pv 2))
        (blkOk_by (N := nPPairs) (sc := defScope sPPairs) (by decide +kernel)) (fun _ _ _ _ _ => pg_name (i := 7) scPPairs.nd rfl (Or.inl rfl)) (fun _ _ _ _ _ => pts_nil) (fun _ _ _ _ _ => pv 7) (fun _ _ _ _ _ => pe_op op_xor (pe_dget hu1 (pv 4) (pv 7) (fun _ _ => rfl)) (pe_dget hu1 (pv 5) (pv 7) (fun _ _ => rfl)))))
    case b3 => exact (ps_ret (pe_lc2 (own := [("at", 8), ("low", 9), ("high", 10)]) (vs1 := [10]) (g := gTup K 2 (gCons (gName 8) (gCons (gName 9) gNil))) (g1 := gName 10) (tt := tYes) (wi1 := iList K (L2.tSl (rSlL K) (tVar 2) (tPart (tOp (rI0 fun i j => .int (i + j)) (tVar 8) (tC (.int 1)))) tNoPart))
        (tt1 := tOr (fun σ H Q => tOp (rI0 fun i j => .int (Builtin.bitAnd i j)) (tDGet (tVar 6) (tVar 9)) (tDGet (tVar 3) (tVar 10)) σ H fun x H' => ∃ k, TruV K x H' k ∧ Q k H') (fun σ H Q => tOp (rI0 fun i j => .int (Builtin.bitAnd i j)) (tDGet (tVar 6) (tVar 10)) (tDGet (tVar 3) (tVar 9)) σ H fun x H' => ∃ k, TruV K x H' k ∧ Q k H'))
        (te := tLst (tCons (tVar 9) (tCons (tVar 10) tNil))) (by rfl) nd (pi_enum (by rfl) le (pa_cons (pv 2) pa_nil))
        (blkOk_by (N := nPPairs) (sc := defScope sPPairs) (by decide +kernel)) (by decide) (fun _ _ _ _ _ => pg_tup (n := 2) (by rfl) (pgs_cons (pg_name (i := 8) scPPairs.nd rfl (Or.inl rfl)) (pgs_cons (pg_name (i := 9) scPPairs.nd rfl (Or.inl rfl)) pgs_nil))) (fun _ _ _ _ _ => pts_nil)
        (fun _ _ _ _ _ => pi_list (pe_slice sl_list (pv 2) (po_some (pe_op op_add (pv 8) pe_int)) po_none)) (fun _ _ _ _ _ => pg_name (i := 10) scPPairs.nd rfl (Or.inl rfl))
        (fun _ _ _ _ _ => pts_one (PW.pt (pw_or (pt_truth (pe_op op_and (pe_dget hu1 (pv 6) (pv 9) (fun _ _ => rfl)) (pe_dget hu1 (pv 3) (pv 10) (fun _ _ => rfl))) (fun _ => rfl)) (pw_or1 (pt_truth (pe_op op_and (pe_dget hu1 (pv 6) (pv 10) (fun _ _ => rfl)) (pe_dget hu1 (pv 3) (pv 9) (fun _ _ => rfl))) (fun _ => rfl))))))
        (fun _ _ _ _ _ => pe_lst (pa_cons (pv 9) (pa_cons (pv 10) pa_nil)))))
    refine ⟨_, rfl, _, rfl, a, b, xs, rs, ts, rfl, pa, pb, fun H1 s1 => ?_⟩
    refine ⟨_, rfl, a, dx, gs, rfl, s1 _ _ fr1, fr2, a, xs, rs, rfl, pa.at_.same s1, fun E1 H2 s2 nE1 hE1 => ?_⟩
    have s12 := s1.trans s2
    refine ⟨_, rfl, a, dx, gs, rfl, s12 _ _ fr1, fr2, a, xs, rs, rfl, pa.at_.same s12, fun E2 H3 s3 nE2 hE2 => ⟨E2, xs, rfl, hE2, ga.nd, ga.le, fun B H4 s4 nB hB => ?_⟩⟩
    refine ⟨(show 2 ≤ sizeLine by decide), fun T1 nT1 => ⟨T1, _, rfl, SqT.of upd_same, rfl, _, _, rfl, _, _, rfl, rfl, ?_⟩⟩
    have sT1 := sn nT1 (o := .tup [.ref E1, .ref B])
    have s5 := s12.trans (s3.trans (s4.trans sT1))
    have hE5 := (s3.trans (s4.trans sT1)) _ _ hE1
    have hB5 := sT1 _ _ hB
    generalize upd H4 T1 (.tup [.ref E1, .ref B]) = H5 at s5 hE5 hB5 ⊢
    refine ⟨_, rfl, a, xs, rs, rfl, pa.same s5, ga, fun O1 H6 s6 nO1 hO1 => ⟨_, rfl, b, xs, ts, rfl, pb.same (s5.trans s6), gb, fun O2 H7 s7 nO2 hO2 => ?_⟩⟩
    refine ⟨(show 2 ≤ sizeLine by decide), fun T2 nT2 => ⟨T2, _, rfl, SqT.of upd_same, rfl, _, _, rfl, _, _, rfl, rfl, ?_⟩⟩
    have sT2 := sn nT2 (o := .tup [.ref O1, .ref O2])
    have s58 := s6.trans (s7.trans sT2)
    have hO1' := (s7.trans sT2) _ _ hO1
    have hO2' := sT2 _ _ hO2
    have hE8 := s58 _ _ hE5
    have hB8 := s58 _ _ hB5
    have s8 := s5.trans s58
    generalize upd H7 T2 (.tup [.ref O1, .ref O2]) = H8 at s8 hE8 hB8 hO1' hO2' ⊢
    refine ⟨_, rfl, E1, rfl, ⟨_, SqL.of hE8⟩, fun Ch nCh => dc_names (f := chgV xs rs ts) hE8 ga.nd (by omega) nCh (fun _ => rfl) (fun x H' Qk hx s' kk => ⟨_, rfl, kk H' (Same.refl _)⟩)
      (fun x H' Qk hx s' kk => ⟨_, rfl, _, rfl, O1, _, rfl, dN_get (s' _ _ hO1') hx, _, rfl, _, rfl, O2, _, rfl, dN_get (s' _ _ hO2') hx, _, _, rfl, rfl, kk H' (Same.refl _)⟩) fun H9 hCh s9 => ?_⟩
    have s09 := s8.trans s9
    have hE9 := s9 _ _ hE8
    have hB9 := s9 _ _ hB8
    have idl : ∀ {x : Str}, x ∈ xs → x ∈ xs := id
    refine ⟨_, rfl, E1, xs.map V.str, rfl, SqL.of hE9, fun D nD => loop_it (walk_enum (K := K) (a := E1) (xs := xs.map V.str)) (fun i H' => ∃ cs : List Addr, H' D = some (.lst (cs.map V.ref)) ∧ FrAt H D H' cs (pairsTo (pairB xs rs ts) xs i) ∧ Same H9 H')
      ⟨[], upd_same, ⟨.nil, (fun c hc => nomatch hc), List.Pairwise.nil⟩, sn nD⟩ (fun i H' _ h => by obtain ⟨_, _, _, h⟩ := h; exact SqL.of (h _ _ hE9)) ?_ ?_⟩
    · rintro i x0 H10 H11 hi ⟨cs, q1, q2, q3⟩ ⟨T, u, v, rfl, nT, rfl, eu, ev⟩
      obtain rfl := Option.some.inj eu
      rw [List.length_map] at hi
      have ex : xs[i]? = some xs[i] := List.getElem?_eq_getElem hi
      dsimp only at ev
      rw [List.getElem?_map, ex] at ev
      obtain rfl : V.str xs[i] = v := Option.some.inj ev
      generalize xs[i] = x at ex ⊢
      have mx := List.mem_of_getElem? ex
      have sT := sn nT (o := .tup [.int (i : Nat), .str x])
      have hT : upd H10 T (.tup [.int (i : Nat), .str x]) T = some (.tup [.int (i : Nat), .str x]) := upd_same
      generalize upd H10 T (.tup [.int (i : Nat), .str x]) = H11 at sT hT ⊢
      have q31 := q3.trans sT
      refine ⟨T, _, rfl, SqT.of hT, rfl, _, _, rfl, _, _, rfl, rfl, rfl, _, rfl, _, rfl, _, _, rfl, rfl, ((i : Nat) : Int) + 1, rfl, E1, xs.map V.str, rfl, SqL.of (q31 _ _ hE9), fun L nL => ?_⟩
      have ec : cutV (xs.map V.str) (some (((i : Nat) : Int) + 1)) none = (xs.drop (i + 1)).map V.str := by
        rw [List.map_drop, show (((i : Nat) : Int) + 1) = ((i + 1 : Nat) : Int) by omega]
        exact cut_from (n := i + 1) (by rw [List.length_map]; omega)
      rw [ec]
      have sL := sn nL (o := .lst ((xs.drop (i + 1)).map V.str))
      have hL : upd H11 L (.lst ((xs.drop (i + 1)).map V.str)) L = some (.lst ((xs.drop (i + 1)).map V.str)) := upd_same
      generalize upd H11 L (.lst ((xs.drop (i + 1)).map V.str)) = H12 at sL hL ⊢
      have q1' := sL _ _ (sT _ _ q1)
      have nLD : L ≠ D := Ne.symm (ne_of_none (sT _ _ q1) nL)
      refine ⟨L, rfl, ⟨_, SqL.of hL⟩, loop_it (walk_list (K := K) (a := L) (xs := (xs.drop (i + 1)).map V.str)) (fun j H' => ∃ cs : List Addr, H' D = some (.lst (cs.map V.ref)) ∧ FrAt H D H' cs (pairsTo (pairB xs rs ts) xs i ++ pairsAt (pairB xs rs ts) xs i j) ∧ Same H9 H' ∧ H' L = some (.lst ((xs.drop (i + 1)).map V.str)))
        ⟨cs, q1', by rw [pairsAt_zero, List.append_nil]; exact ⟨q2.at_.same (sT.trans sL), q2.new, q2.nd⟩, q31.trans sL, hL⟩ (fun j H' _ h => by obtain ⟨_, _, _, _, h⟩ := h; exact SqL.of h) ?_ ?_⟩
      · rintro j y H14 H13 hj ⟨cs, p1, p2, p3, p4⟩ ⟨rfl, ey⟩
        rw [List.getElem?_map] at ey
        obtain ⟨z, hz, rfl⟩ := Option.map_eq_some_iff.mp ey
        have mz : z ∈ xs := List.mem_of_mem_drop (List.mem_of_getElem? hz)
        have lc : cs.length ≤ 900 := by
          have h1 := p2.at_.len
          have h2 := pairsTo_len (p := pairB xs rs ts) (xs := xs) (i := i)
          have h3 := pairsAt_len (p := pairB xs rs ts) (xs := xs) (i := i) (k := j)
          have h4 : i * xs.length ≤ 29 * xs.length := Nat.mul_le_mul_right _ (by omega)
          rw [List.length_append] at h1
          omega
        have ok : ∀ N1, H13 N1 = none → pairB xs rs ts x z = true → ∃ cs' : List Addr, upd (upd H13 N1 (.lst [.str x, .str z])) D (.lst (cs.map V.ref ++ [.ref N1])) D = some (.lst (cs'.map V.ref)) ∧ FrAt H D (upd (upd H13 N1 (.lst [.str x, .str z])) D (.lst (cs.map V.ref ++ [.ref N1]))) cs' (pairsTo (pairB xs rs ts) xs i ++ pairsAt (pairB xs rs ts) xs i (j + 1)) ∧
            Same H9 (upd (upd H13 N1 (.lst [.str x, .str z])) D (.lst (cs.map V.ref ++ [.ref N1]))) ∧ upd (upd H13 N1 (.lst [.str x, .str z])) D (.lst (cs.map V.ref ++ [.ref N1])) L = some (.lst ((xs.drop (i + 1)).map V.str)) := fun N1 nN1 pb => by
          have nND : N1 ≠ D := Ne.symm (ne_of_none p1 nN1)
          have sN := sn nN1 (o := .lst [.str x, .str z])
          refine ⟨cs ++ [N1], by rw [upd_same, List.map_append]; rfl, ⟨?_, fun c hc => ?_, ?_⟩, fun c o e => ?_, by rw [upd_ne nLD]; exact sN _ _ p4⟩
          · rw [pairsAt_step ex hz, if_pos pb, ← List.append_assoc]
            exact RowsAt.snoc (p2.at_.keep fun c hc o e => by rw [upd_ne (p2.new c hc).2]; exact sN _ _ e) (by rw [upd_ne nND, upd_same]; rfl)
          · rcases List.mem_append.mp hc with h | h
            · exact p2.new c h
            · rw [List.mem_singleton.mp h]
              exact ⟨(s09.trans p3).free nN1, nND⟩
          · refine List.nodup_append.mpr ⟨p2.nd, List.pairwise_singleton _ _, fun c hc d hd e => ?_⟩
            rw [List.mem_singleton.mp hd] at e
            obtain ⟨r, _, hr⟩ := p2.at_.strs hc
            rw [e, nN1] at hr
            cases hr
          · rw [upd_ne (ne_of_none e nD)]
            exact sN _ _ (p3 _ _ e)
        have no : pairB xs rs ts x z = false → ∃ cs' : List Addr, H13 D = some (.lst (cs'.map V.ref)) ∧ FrAt H D H13 cs' (pairsTo (pairB xs rs ts) xs i ++ pairsAt (pairB xs rs ts) xs i (j + 1)) ∧ Same H9 H13 ∧ H13 L = some (.lst ((xs.drop (i + 1)).map V.str)) := fun pb => by
          refine ⟨cs, p1, ?_, p3, p4⟩
          rw [pairsAt_step ex hz, if_neg (by rw [pb]; decide), List.append_nil]
          exact p2
        have hC13 := p3 _ _ hCh
        have hB13 := p3 _ _ hB9
        refine ⟨rfl, _, rfl, _, rfl, Ch, _, rfl, dN_get hC13 mx, _, rfl, _, rfl, B, _, rfl, dN_get hB13 mz, _, _, rfl, rfl, chgB xs rs ts x z, chg_tru.symm, ?_⟩
        cases e1 : chgB xs rs ts x z with
        | true =>
          refine iteT (iteT ⟨_, rfl, _, rfl, (show 2 ≤ sizeLine by decide), fun N1 nN1 => ⟨_, sn nN1 _ _ p1, small1000 (by rw [List.length_map]; omega), ok N1 nN1 ?_⟩⟩)
          unfold pairB
          rw [e1]
          rfl
        | false =>
          refine iteF ⟨_, rfl, _, rfl, Ch, _, rfl, dN_get hC13 mz, _, rfl, _, rfl, B, _, rfl, dN_get hB13 mx, _, _, rfl, rfl, chgB xs rs ts z x, chg_tru.symm, ?_⟩
          cases e2 : chgB xs rs ts z x with
          | true =>
            refine iteT ⟨_, rfl, _, rfl, (show 2 ≤ sizeLine by decide), fun N1 nN1 => ⟨_, sn nN1 _ _ p1, small1000 (by rw [List.length_map]; omega), ok N1 nN1 ?_⟩⟩
            unfold pairB
            rw [e1, e2]
            rfl
          | false =>
            refine iteF (no ?_)
            unfold pairB
            rw [e1, e2]
            rfl
      · rintro H13 ⟨cs, p1, p2, p3, p4⟩
        rw [List.length_map, pairsAt_all, ← pairsTo_succ] at p2
        exact ⟨cs, p1, p2, p3⟩
    · rintro H10 ⟨cs, q1, q2, q3⟩
      rw [List.length_map] at q2
      exact k D cs H10 (s09.trans q3) (s09.free nD) q1 q2
end
end G14

set_option maxHeartbeats 8000000
namespace G14
open PySem PySem.Spec PyProof.Rows L2 G1
/-- which of the lots have the name of this bit -/
def metM : List Nat → Nat → Nat
  | [], _ => 0
  | z :: zs, i => (if z.testBit i then 1 else 0) + 2 * metM zs i
theorem metM_bit : ∀ {zs : List Nat} {i k : Nat}, (metM zs i).testBit k = (zs[k]?.map fun z => z.testBit i).getD false
  | [], i, k => by
    show (0 : Nat).testBit k = _
    rw [Nat.zero_testBit]
    rfl
  | z :: zs, i, 0 => by
    show ((if z.testBit i then 1 else 0) + 2 * metM zs i).testBit 0 = z.testBit i
    cases z.testBit i with
    | true => rw [if_pos rfl, Nat.testBit_zero, decide_eq_true (by omega)]
    | false => rw [if_neg Bool.false_ne_true, Nat.testBit_zero, decide_eq_false (by omega)]
  | z :: zs, i, k + 1 => by
    show ((if z.testBit i then 1 else 0) + 2 * metM zs i).testBit (k + 1) = _
    rw [Nat.testBit_succ]
    have e : ((if z.testBit i then 1 else 0) + 2 * metM zs i) / 2 = metM zs i := by split <;> omega
    rw [e, metM_bit]
    rfl
theorem metM_snoc : ∀ {zs : List Nat} {z i : Nat}, metM (zs ++ [z]) i = metM zs i + (if z.testBit i then 2 ^ zs.length else 0)
  | [], z, i => by
    show (if z.testBit i then 1 else 0) + 2 * 0 = 0 + _
    rw [Nat.mul_zero, Nat.add_zero, Nat.zero_add]
    rfl
  | y :: zs, z, i => by
    show (if y.testBit i then 1 else 0) + 2 * metM (zs ++ [z]) i = (if y.testBit i then 1 else 0) + 2 * metM zs i + (if z.testBit i then 2 ^ (zs.length + 1) else 0)
    rw [metM_snoc, Nat.pow_succ]
    cases z.testBit i with
    | true => rw [if_pos rfl, if_pos rfl]; omega
    | false => rw [if_neg Bool.false_ne_true, if_neg Bool.false_ne_true]; omega
theorem bit_ne2 {i m : Nat} : (Builtin.bitAnd (m : Int) ((2 ^ i : Nat) : Int) != 0) = m.testBit i := by
  rw [band_nat, Nat.and_comm, ← band_nat]
  exact bit_ne
theorem metM_lt : ∀ {zs : List Nat} {i : Nat}, metM zs i < 2 ^ zs.length
  | [], _ => by show 0 < 1; decide
  | z :: zs, i => by
    show (if z.testBit i then 1 else 0) + 2 * metM zs i < 2 ^ (zs.length + 1)
    have := metM_lt (zs := zs) (i := i)
    rw [Nat.pow_succ]
    split <;> omega
def metV (xs : List Str) (zs : List Nat) (x : Str) : V := .int ((metM zs (xs.idxOf x) : Nat) : Int)
def spLMet : Sp := fun vs H Q _ => ∃ (b m : Addr) (xs : List Str) (zs : List Nat), vs = [.ref b, .ref m] ∧ H b = some (.dK (dN xs (bitV xs))) ∧ H m = some (.lst (mskV zs)) ∧ xs.Nodup ∧ xs.length ≤ 40 ∧ zs.length ≤ 60 ∧
  ∀ (D : Addr) (H' : Hp), Same H H' → H D = none → H' D = some (.dK (dN xs (metV xs zs))) → Q (.ref D) H'
abbrev ttMet (K : PySem.W.Frag) : TT := fun σ H Q => tOp (rI0 fun i j => .int (Builtin.bitAnd i j)) (tVar 5) (tVar 3) σ H fun x H' => ∃ k, TruV K x H' k ∧ Q k H'
section
variable {P : Program} {w : World} {K : PySem.W.Frag} {mg : Str → Option Value} {base : Heap} {C : Addr}
abbrev sLMet : Stmt := top 47
abbrev nLMet : List Str := ["bits", "masks", "name", "bit", "at", "mask"]
theorem scLMet : FnScope nLMet ["bits", "masks"] (defScope sLMet) := ⟨rfl, rfl, rfl, by decide +kernel, rfl, by decide +kernel, by decide +kernel⟩
def scLMIn : Scope := { kind := .function, names := [(Str.ofString ".0", .local), (Str.ofString "name", .local), (Str.ofString "bit", .cell), (Str.ofString "sum", .globalImplicit), (Str.ofString "enumerate", .globalImplicit), (Str.ofString "masks", .cell)], isGenerator := false, isCoroutine := false }
theorem ok_lMet {f : Addr} {fd : FuncData} (F : FnP K "lots_met" sLMet f fd) (L : Lib K mg) (le : mg "enumerate" = none) : FnOk P w K mg base CX0 1 f fd ["bits", "masks"] spLMet := by
  refine okN F scLMet (fun vs H Q E h => ?_) (fun cdv A outer s H vs Q E hr h => ?_)
  · obtain ⟨_, _, _, _, rfl, _⟩ := h
    rfl
  · obtain ⟨b, m, xs, zs, rfl, hb, hm, ndx, l40, l60, k⟩ := h
    have nd := scLMet.nd
    refine ⟨_, pss_one (ps_ret (pe_lock (pe_dc (own := [("name", 2), ("bit", 3)]) (g := gTup K 2 (gCons (gName 2) (gCons (gName 3) gNil))) (tt := tYes) (tk := tVar 2)
        (tv := tCB (rSum K) (tCons (tLc (iEnum K (tCons (tVar 1) tNil)) (gTup K 2 (gCons (gName 4) (gCons (gName 5) gNil))) (ttMet K) (tOp (rI CPow fun i j => .int (i * 2 ^ j.toNat)) (tC (.int 1)) (tVar 4)) [4, 5]) tNil)) rfl nd (pi_items (pv 0))
        (blkOk_by (N := nLMet) (sc := defScope sLMet) (by decide +kernel)) (fun _ _ _ _ _ => pg_tup (n := 2) (by rfl) (pgs_cons (pg_name (i := 2) scLMet.nd rfl (Or.inl rfl)) (pgs_cons (pg_name (i := 3) scLMet.nd rfl (Or.inr rfl)) pgs_nil)))
        (fun _ _ _ _ _ => pts_nil) (fun _ _ _ _ _ => pv 2)
        (fun _ _ _ _ _ => pe_callB (cr_sum rfl) (by rfl) L.sum (by decide +kernel) (pa_cons (pe_lc (own := [("at", 4), ("mask", 5)]) (g := gTup K 2 (gCons (gName 4) (gCons (gName 5) gNil))) (tt := ttMet K) (te := tOp (rI CPow fun i j => .int (i * 2 ^ j.toNat)) (tC (.int 1)) (tVar 4)) (by rfl) scLMet.nd
          (pi_enum (by rfl) le (pa_cons (pv 1) pa_nil)) (blkOk_by (N := nLMet) (sc := scLMIn) (by decide +kernel)) (fun _ _ _ _ _ => pg_tup (n := 2) (by rfl) (pgs_cons (pg_name (i := 4) scLMet.nd rfl (Or.inl rfl)) (pgs_cons (pg_name (i := 5) scLMet.nd rfl (Or.inl rfl)) pgs_nil)))
          (fun _ _ _ _ _ => pts_one (pt_truth (pe_op op_and (pv 5) (pv 3)) (fun _ => rfl))) (fun _ _ _ _ _ => pe_op op_shl pe_int (pv 4))) pa_nil))))), ?_⟩
    refine ⟨b, _, hb, trivial, fun od => ?_⟩
    have fz : upd H b (.frz od (.dK (dN xs (bitV xs)))) b = some (.frz od (.dK (dN xs (bitV xs)))) := upd_same
    have keep : ∀ (c : Addr) (o : HO), c ≠ b → H c = some o → upd H b (.frz od (.dK (dN xs (bitV xs)))) c = some o := fun c o n e => by rw [upd_ne n]; exact e
    have back : ∀ c : Addr, c ≠ b → upd H b (.frz od (.dK (dN xs (bitV xs)))) c = none → H c = none := fun c n e => by rw [upd_ne n] at e; exact e
    generalize upd H b (.frz od (.dK (dN xs (bitV xs)))) = H5 at fz keep back ⊢
    refine ⟨_, rfl, b, od, dN xs (bitV xs), rfl, fz, fun X nX => ?_⟩
    have nXb : X ≠ b := Ne.symm (ne_of_none fz nX)
    have nmb : m ≠ b := fun e => by
      rw [e, hb] at hm
      cases hm
    refine loop_it (walk_items (d := b) (o := od) (kvs := dN xs (bitV xs))) (fun i H' => H' X = some (.dK (dN (xs.take i) (metV xs zs))) ∧ H' b = some (.frz od (.dK (dN xs (bitV xs)))) ∧ ∀ (c : Addr) (o : HO), c ≠ b → H c = some o → H' c = some o)
      ⟨upd_same, by rw [upd_ne (Ne.symm nXb)]; exact fz, fun c o n e => by rw [upd_ne (ne_of_none (keep c o n e) nX)]; exact keep c o n e⟩ (fun i H' _ h => h.2.1) ?_ ?_
    · rintro i x H6 H7 hi ⟨q1, q2, q3⟩ ⟨T, u, v, rfl, nT, rfl, eu, ev⟩
      dsimp only at eu ev
      have li : i < xs.length := by rw [dN_len] at hi; exact hi
      have ez : xs[i]? = some xs[i] := List.getElem?_eq_getElem li
      unfold dN at eu ev
      rw [List.getElem?_map] at eu ev
      rw [ez] at eu ev
      obtain rfl : V.str xs[i] = u := Option.some.inj eu
      obtain rfl : bitV xs xs[i] = v := Option.some.inj ev
      have nx : xs[i] ∉ xs.take i := fun q => by
        obtain ⟨j, hj, e⟩ := List.mem_iff_getElem.mp q
        rw [List.length_take] at hj
        rw [List.getElem_take] at e
        exact List.pairwise_iff_getElem.mp ndx j i (by omega) li (by omega) e
      generalize hz : xs[i] = z at ez nx ⊢
      have sT := sn nT (o := .tup [.str z, bitV xs z])
      have hT : upd H6 T (.tup [.str z, bitV xs z]) T = some (.tup [.str z, bitV xs z]) := upd_same
      generalize upd H6 T (.tup [.str z, bitV xs z]) = H7 at sT hT ⊢
      have hm7 := sT _ _ (q3 m _ nmb hm)
      refine ⟨T, _, rfl, SqT.of hT, rfl, _, _, rfl, _, _, rfl, rfl, rfl, _, rfl, _, rfl, m, mskV zs, rfl, SqL.of hm7, fun Y nY => ?_⟩
      have nYX : Y ≠ X := Ne.symm (ne_of_none (sT _ _ q1) nY)
      refine lc_it (walk_enum (K := K) (a := m) (xs := mskV zs)) (fun j H' => ∃ ns : List Int, H' Y = some (.lst (ns.map V.int)) ∧ ns.sum = ((metM (zs.take j) (xs.idxOf z) : Nat) : Int) ∧ ns.length ≤ j ∧ Same H7 H')
        ⟨[], upd_same, rfl, Nat.le_refl _, sn nY⟩ (fun j H' _ h => by obtain ⟨_, _, _, _, h⟩ := h; exact SqL.of (h _ _ hm7)) ?_ ?_
      · rintro j y H8 H9 hj ⟨ns, p1, p2, p3, p4⟩ ⟨T2, u2, v2, rfl, nT2, rfl, eu2, ev2⟩
        obtain rfl := Option.some.inj eu2
        dsimp only at ev2
        unfold mskV at ev2 hj
        rw [List.length_map] at hj
        have ej : zs[j]? = some zs[j] := List.getElem?_eq_getElem hj
        rw [List.getElem?_map, ej] at ev2
        obtain rfl := Option.some.inj ev2
        generalize zs[j] = y at ej ⊢
        have sT2 := sn nT2 (o := .tup [.int (j : Nat), .int ((y : Nat) : Int)])
        have hT2 : upd H8 T2 (.tup [.int (j : Nat), .int ((y : Nat) : Int)]) T2 = some (.tup [.int (j : Nat), .int ((y : Nat) : Int)]) := upd_same
        generalize upd H8 T2 (.tup [.int (j : Nat), .int ((y : Nat) : Int)]) = H9 at sT2 hT2 ⊢
        have tk : zs.take (j + 1) = zs.take j ++ [y] := by
          rw [List.take_succ, ej]
          rfl
        have ltk : (zs.take j).length = j := by rw [List.length_take]; omega
        refine ⟨T2, _, rfl, SqT.of hT2, rfl, _, _, rfl, _, _, rfl, rfl, rfl, _, rfl, _, rfl, _, _, rfl, rfl, y.testBit (xs.idxOf z), bit_ne2.symm, ?_⟩
        cases e : y.testBit (xs.idxOf z) with
        | false =>
          refine iteF ⟨ns, sT2 _ _ p1, ?_, by omega, p4.trans sT2⟩
          rw [p2, tk, metM_snoc, e, if_neg Bool.false_ne_true, Nat.add_zero]
        | true =>
          refine iteT ⟨_, rfl, _, _, rfl, rfl, ⟨by omega, by omega, by decide⟩, _, sT2 _ _ p1, small1000 (by rw [List.length_map]; omega), ns ++ [2 ^ j], ?_, ?_, by rw [List.length_append]; exact Nat.succ_le_succ p3, fun c o e => ?_⟩
          · rw [upd_same, List.map_append]
            refine congrArg (fun z => some (HO.lst (ns.map V.int ++ [z]))) ?_
            show V.int ((1 : Int) * 2 ^ ((j : Nat) : Int).toNat) = V.int (2 ^ j)
            rw [Int.one_mul, Int.toNat_natCast]
          · rw [List.sum_append, p2, tk, metM_snoc, e, if_pos rfl, ltk]
            show _ + (2 ^ j + 0) = _
            rw [Int.natCast_add, Int.natCast_pow, Int.add_zero]
            rfl
          · rw [upd_ne (ne_of_none e nY)]
            exact sT2 _ _ (p4 _ _ e)
      · rintro H8 ⟨ns, p1, p2, p3, p4⟩
        unfold mskV at p2
        rw [List.length_map, List.take_length] at p2
        refine ⟨Y, ns, rfl, SqL.of p1, _, .inr z, rfl, p4 _ _ (sT _ _ q1), small1000 (by rw [dN_len, List.length_take]; omega), ?_, ?_, fun c o n e => ?_⟩
        · rw [upd_same, p2]
          refine congrArg (fun z => some (HO.dK z)) ?_
          show putK (dN (xs.take i) (metV xs zs)) (.inr z) (metV xs zs z) = _
          rw [dN_put nx, List.take_succ, ez]
          rfl
        · rw [upd_ne (Ne.symm nXb)]
          exact p4 _ _ (sT _ _ q2)
        · by_cases qx : c = X
          · rw [qx] at e
            rw [back X nXb nX] at e
            cases e
          · rw [upd_ne qx]
            exact p4 _ _ (sT _ _ (q3 c o n e))
    · rintro H6 ⟨q1, q2, q3⟩
      rw [dN_len, List.take_length] at q1
      refine ⟨q2, k X _ (fun c o e => ?_) (back X nXb nX) (by rw [upd_ne nXb]; exact q1)⟩
      by_cases qc : c = b
      · subst qc
        rw [upd_same]
        rw [hb] at e
        exact e
      · rw [upd_ne qc]
        exact q3 c o qc e
end
end G14

set_option maxHeartbeats 4000000
namespace G14
open PySem PySem.Spec PyProof.Rows L2 G1
/-! The stages of the shortest meeting, as lists: no program here. -/
theorem and_eo {a b : Nat} : (2 * a) &&& (2 * b + 1) = 2 * (a &&& b) := by
  refine Nat.eq_of_testBit_eq fun i => ?_
  rw [Nat.testBit_and]
  cases i with
  | zero =>
    rw [Nat.testBit_zero, Nat.testBit_zero, Nat.testBit_zero, decide_eq_false (by omega), Bool.false_and, decide_eq_false (by omega)]
  | succ i =>
    rw [Nat.testBit_succ, Nat.testBit_succ, Nat.testBit_succ, Nat.mul_div_cancel_left _ (by decide), Nat.mul_div_cancel_left _ (by decide), show (2 * b + 1) / 2 = b by omega, Nat.testBit_and]
theorem and_oe {b : Nat} : (2 * b + 1) &&& (2 * b) = 2 * b := by
  refine Nat.eq_of_testBit_eq fun i => ?_
  rw [Nat.testBit_and]
  cases i with
  | zero => rw [Nat.testBit_zero, Nat.testBit_zero, decide_eq_false (show ¬ 2 * b % 2 = 1 by omega), Bool.and_false]
  | succ i => rw [Nat.testBit_succ, Nat.testBit_succ, show (2 * b + 1) / 2 = b by omega, Nat.mul_div_cancel_left _ (by decide), Bool.and_self]
/-- the first bit that m lacks -/
def flM (m : Nat) : Nat := (m + 1) - ((m + 1) &&& m)
theorem flM_at (m : Nat) : ∃ i, flM m = 2 ^ i ∧ m.testBit i = false ∧ ∀ j, j < i → m.testBit j = true := by
  induction m using Nat.strongRecOn with
  | _ m ih =>
    rcases Nat.mod_two_eq_zero_or_one m with h | h
    · obtain ⟨k, rfl⟩ : ∃ k, m = 2 * k := ⟨m / 2, by omega⟩
      refine ⟨0, ?_, by rw [Nat.testBit_zero, decide_eq_false (by omega)], fun j hj => absurd hj (Nat.not_lt_zero _)⟩
      unfold flM
      rw [and_oe]
      show 2 * k + 1 - 2 * k = 1
      omega
    · obtain ⟨k, rfl⟩ : ∃ k, m = 2 * k + 1 := ⟨m / 2, by omega⟩
      obtain ⟨i, h1, h2, h3⟩ := ih k (by omega)
      refine ⟨i + 1, ?_, ?_, fun j hj => ?_⟩
      · unfold flM at h1 ⊢
        rw [show 2 * k + 1 + 1 = 2 * (k + 1) by omega, and_eo, ← Nat.mul_sub, h1, Nat.pow_succ, Nat.mul_comm]
      · rw [Nat.testBit_succ, show (2 * k + 1) / 2 = k by omega]
        exact h2
      · cases j with
        | zero => rw [Nat.testBit_zero, decide_eq_true (by omega)]
        | succ j =>
          rw [Nat.testBit_succ, show (2 * k + 1) / 2 = k by omega]
          exact h3 j (by omega)
/-- c has the first bit that m lacks -/
def flB (m c : Nat) : Bool := (c &&& flM m) != 0
theorem and_pow {c i : Nat} : ((c &&& 2 ^ i) != 0) = c.testBit i := by
  have q := bit_ne2 (i := i) (m := c)
  rw [band_nat] at q
  rw [← q, Bool.eq_iff_iff, bne_iff_ne, bne_iff_ne]
  exact ⟨fun h e => h (by omega), fun h e => h (by omega)⟩
theorem flB_at (m : Nat) : ∃ i, (∀ c, flB m c = c.testBit i) ∧ m.testBit i = false ∧ ∀ j, j < i → m.testBit j = true := by
  obtain ⟨i, h1, h2, h3⟩ := flM_at m
  refine ⟨i, fun c => ?_, h2, h3⟩
  unfold flB
  rw [h1]
  exact and_pow
/-- all lots of many -/
def everyM (many : Nat) : Nat := 2 ^ many - 1
theorem every_bit {many i : Nat} : (everyM many).testBit i = decide (i < many) := Nat.testBit_two_pow_sub_one many i
theorem flB_in {many m : Nat} (lt : m < 2 ^ many) (ne : m ≠ everyM many) : ∃ i, i < many ∧ (∀ c, flB m c = c.testBit i) ∧ m.testBit i = false := by
  obtain ⟨i, h1, h2, h3⟩ := flB_at m
  refine ⟨i, ?_, h1, h2⟩
  refine Nat.lt_of_not_le fun le => ne (Nat.eq_of_testBit_eq fun j => ?_)
  rw [every_bit]
  by_cases q : j < many
  · rw [decide_eq_true q, h3 j (by omega)]
  · rw [decide_eq_false q]
    exact Nat.testBit_lt_two_pow (Nat.lt_of_lt_of_le lt (Nat.pow_le_pow_right (by decide) (by omega)))
abbrev Stg := List (Nat × List Str)
def keysOf (st : Stg) : List Nat := st.map (·.1)
def addIn (m : Nat) (l : List Str) (fd : Stg) (c : Nat × Str) : Stg := if flB m c.1 = true ∧ (m ||| c.1) ∉ keysOf fd then fd ++ [(m ||| c.1, l ++ [c.2])] else fd
def stepIn (m : Nat) (l : List Str) (ch : List (Nat × Str)) (fd : Stg) : Stg := ch.foldl (addIn m l) fd
def oneM (ch : List (Nat × Str)) (st : Stg) : Stg := st.foldl (fun fd e => stepIn e.1 e.2 ch fd) []
theorem addIn_sub {m : Nat} {l : List Str} {fd : Stg} {c : Nat × Str} {e : Nat × List Str} (h : e ∈ fd) : e ∈ addIn m l fd c := by
  unfold addIn
  split
  · exact List.mem_append.mpr (.inl h)
  · exact h
theorem stepIn_sub {m : Nat} {l : List Str} : ∀ {ch : List (Nat × Str)} {fd : Stg} {e : Nat × List Str}, e ∈ fd → e ∈ stepIn m l ch fd
  | [], _, _, h => h
  | _ :: ch, _, _, h => stepIn_sub (ch := ch) (addIn_sub h)
theorem keys_sub {fd gd : Stg} (h : ∀ e ∈ fd, e ∈ gd) {k : Nat} (hk : k ∈ keysOf fd) : k ∈ keysOf gd := by
  obtain ⟨e, he, rfl⟩ := List.mem_map.mp hk
  exact List.mem_map.mpr ⟨e, h e he, rfl⟩
theorem stepIn_has {m : Nat} {l : List Str} : ∀ {ch : List (Nat × Str)} {fd : Stg} {c : Nat × Str}, c ∈ ch → flB m c.1 = true → (m ||| c.1) ∈ keysOf (stepIn m l ch fd)
  | d :: ch, fd, c, h, hb => by
    rcases List.mem_cons.mp h with rfl | h
    · refine keys_sub (fd := addIn m l fd c) (fun e he => stepIn_sub (ch := ch) he) ?_
      unfold addIn
      by_cases q : (m ||| c.1) ∈ keysOf fd
      · rw [if_neg fun z => z.2 q]
        exact q
      · rw [if_pos ⟨hb, q⟩]
        unfold keysOf
        rw [List.map_append]
        exact List.mem_append.mpr (.inr (.head _))
    · exact stepIn_has (ch := ch) h hb
theorem one_fold_sub {ch : List (Nat × Str)} : ∀ {st fd : Stg} {e : Nat × List Str}, e ∈ fd → e ∈ st.foldl (fun fd e => stepIn e.1 e.2 ch fd) fd
  | [], _, _, h => h
  | _ :: st, _, _, h => one_fold_sub (st := st) (stepIn_sub h)
theorem one_fold_has {ch : List (Nat × Str)} : ∀ {st fd : Stg} {e : Nat × List Str} {c : Nat × Str}, e ∈ st → c ∈ ch → flB e.1 c.1 = true → (e.1 ||| c.1) ∈ keysOf (st.foldl (fun fd e => stepIn e.1 e.2 ch fd) fd)
  | d :: st, fd, e, c, h, hc, hb => by
    rcases List.mem_cons.mp h with rfl | h
    · exact keys_sub (fd := stepIn e.1 e.2 ch fd) (fun x hx => one_fold_sub (st := st) hx) (stepIn_has hc hb)
    · exact one_fold_has (st := st) h hc hb
theorem oneM_has {ch : List (Nat × Str)} {st : Stg} {e : Nat × List Str} {c : Nat × Str} (he : e ∈ st) (hc : c ∈ ch) (hb : flB e.1 c.1 = true) : (e.1 ||| c.1) ∈ keysOf (oneM ch st) := one_fold_has he hc hb
/-- what is in a new stage comes of the old one and of a choice -/
theorem stepIn_of {m : Nat} {l : List Str} : ∀ {ch : List (Nat × Str)} {fd : Stg} {e : Nat × List Str}, e ∈ stepIn m l ch fd → e ∈ fd ∨ ∃ c ∈ ch, e = (m ||| c.1, l ++ [c.2])
  | [], _, _, h => .inl h
  | c :: ch, fd, e, h => by
    rcases stepIn_of (ch := ch) h with h | ⟨d, hd, h⟩
    · unfold addIn at h
      split at h
      · rcases List.mem_append.mp h with h | h
        · exact .inl h
        · exact .inr ⟨c, .head _, List.mem_singleton.mp h⟩
      · exact .inl h
    · exact .inr ⟨d, .tail _ hd, h⟩
theorem oneM_of {ch : List (Nat × Str)} {st : Stg} {e : Nat × List Str} (h : e ∈ oneM ch st) : ∃ o ∈ st, ∃ c ∈ ch, e = (o.1 ||| c.1, o.2 ++ [c.2]) := by
  have q : ∀ {st fd : Stg}, e ∈ st.foldl (fun fd e => stepIn e.1 e.2 ch fd) fd → e ∈ fd ∨ ∃ o ∈ st, ∃ c ∈ ch, e = (o.1 ||| c.1, o.2 ++ [c.2]) := fun {st} => by
    induction st with
    | nil => exact fun h => .inl h
    | cons o st ih =>
      intro fd h
      rcases ih h with h | ⟨p, hp, h⟩
      · rcases stepIn_of h with h | ⟨c, hc, h⟩
        · exact .inl h
        · exact .inr ⟨o, .head _, c, hc, h⟩
      · exact .inr ⟨p, .tail _ hp, h⟩
  exact (q h).elim (fun h => nomatch h) id
/-- a stage of n choices each -/
structure StOk (ch : List (Nat × Str)) (many n : Nat) (st : Stg) : Prop where
  sound : ∀ e ∈ st, e.2.length = n ∧ ∃ cs : List Nat, cs.length = n ∧ (∀ c ∈ cs, c ∈ ch.map (·.1)) ∧ e.1 = orM cs
  whole : ∀ T : List Nat, (∀ c ∈ T, c ∈ ch.map (·.1)) → orM T = everyM many → n ≤ T.length → ∃ e ∈ st, ∃ T' : List Nat, T'.length + n = T.length ∧ (∀ c ∈ T', c ∈ ch.map (·.1)) ∧ e.1 ||| orM T' = everyM many
theorem or_zero_l {a : Nat} : 0 ||| a = a := Nat.zero_or a
theorem stOk_zero {ch : List (Nat × Str)} {many : Nat} : StOk ch many 0 [(0, [])] :=
  ⟨fun e he => by rw [List.mem_singleton.mp he]; exact ⟨rfl, [], rfl, (fun c hc => nomatch hc), rfl⟩, fun T h1 h2 _ => ⟨_, .head _, T, rfl, h1, by rw [Nat.zero_or]; exact h2⟩⟩
theorem orM_lt {zs : List Nat} {n : Nat} (h : ∀ z ∈ zs, z < 2 ^ n) : orM zs < 2 ^ n := by
  refine Nat.lt_pow_two_of_testBit _ fun i hi => ?_
  cases e : (orM zs).testBit i with
  | false => rfl
  | true =>
    obtain ⟨z, hz, hb⟩ := orM_bit.mp e
    rw [Nat.testBit_lt_two_pow (Nat.lt_of_lt_of_le (h z hz) (Nat.pow_le_pow_right (by decide) hi))] at hb
    cases hb
theorem StOk.lt {ch : List (Nat × Str)} {many n : Nat} {st : Stg} (h : StOk ch many n st) (lt : ∀ c ∈ ch.map (·.1), c < 2 ^ many) : ∀ e ∈ st, e.1 < 2 ^ many := fun e he => by
  obtain ⟨_, cs, _, hc, q⟩ := h.sound e he
  rw [q]
  exact orM_lt fun z hz => lt z (hc z hz)
theorem stOk_succ {ch : List (Nat × Str)} {many n : Nat} {st : Stg} (h : StOk ch many n st) (lt : ∀ c ∈ ch.map (·.1), c < 2 ^ many) (no : everyM many ∉ keysOf st) : StOk ch many (n + 1) (oneM ch st) := by
  refine ⟨fun e he => ?_, fun T h1 h2 h3 => ?_⟩
  · obtain ⟨o, ho, c, hc, rfl⟩ := oneM_of he
    obtain ⟨l1, cs, l2, hcs, q⟩ := h.sound o ho
    refine ⟨by rw [List.length_append, l1]; rfl, cs ++ [c.1], by rw [List.length_append, l2]; rfl, fun d hd => ?_, ?_⟩
    · rcases List.mem_append.mp hd with hd | hd
      · exact hcs d hd
      · rw [List.mem_singleton.mp hd]
        exact List.mem_map.mpr ⟨c, hc, rfl⟩
    · rw [orM_snoc, ← q]
  · obtain ⟨e, he, T', l1, hT, q⟩ := h.whole T h1 h2 (by omega)
    have ne : e.1 ≠ everyM many := fun z => no (List.mem_map.mpr ⟨e, he, z⟩)
    obtain ⟨i, li, hb, b0⟩ := flB_in (h.lt lt e he) ne
    have bi : (e.1 ||| orM T').testBit i = true := by rw [q, every_bit, decide_eq_true li]
    rw [Nat.testBit_or, b0, Bool.false_or] at bi
    obtain ⟨c, hc, cb⟩ := orM_bit.mp bi
    obtain ⟨d, hd, rfl⟩ := List.mem_map.mp (hT c hc)
    obtain ⟨x, hx, ex⟩ := List.mem_map.mp (oneM_has he hd (by rw [hb]; exact cb))
    refine ⟨x, hx, T'.erase d.1, ?_, fun y hy => hT y (List.mem_of_mem_erase hy), ?_⟩
    · rw [List.length_erase_of_mem hc]
      have := List.length_pos_of_mem hc
      omega
    · have ex' : x.1 = e.1 ||| d.1 := ex
      rw [ex', ← q]
      refine Nat.eq_of_testBit_eq fun j => ?_
      rw [Nat.testBit_or, Nat.testBit_or, Nat.testBit_or, Bool.or_assoc]
      congr 1
      rw [Bool.eq_iff_iff, Bool.or_eq_true, orM_bit, orM_bit]
      constructor
      · rintro (h | ⟨z, hz, h⟩)
        · exact ⟨d.1, hc, h⟩
        · exact ⟨z, List.mem_of_mem_erase hz, h⟩
      · rintro ⟨z, hz, h⟩
        by_cases ze : z = d.1
        · exact .inl (by rw [← ze]; exact h)
        · exact .inr ⟨z, (List.mem_erase_of_ne ze).mpr hz, h⟩
theorem addIn_nd {m : Nat} {l : List Str} {fd : Stg} {c : Nat × Str} (h : (keysOf fd).Nodup) : (keysOf (addIn m l fd c)).Nodup := by
  unfold addIn
  split
  · rename_i q
    unfold keysOf
    rw [List.map_append]
    refine List.nodup_append.mpr ⟨h, List.pairwise_singleton _ _, fun a ha b hb e => ?_⟩
    rw [List.mem_singleton.mp hb] at e
    have e2 : a = m ||| c.1 := e
    exact q.2 (by rw [← e2]; exact ha)
  · exact h
/-- the least number of choices that meet every lot -/
def LeastMeet (ch : List (Nat × Str)) (many n : Nat) : Prop := (∃ T : List Nat, T.length = n ∧ (∀ c ∈ T, c ∈ ch.map (·.1)) ∧ orM T = everyM many) ∧ ∀ T : List Nat, (∀ c ∈ T, c ∈ ch.map (·.1)) → orM T = everyM many → n ≤ T.length
theorem stOk_end {ch : List (Nat × Str)} {many n : Nat} {st : Stg} (h : StOk ch many n st) (le : ∀ T : List Nat, (∀ c ∈ T, c ∈ ch.map (·.1)) → orM T = everyM many → n ≤ T.length) {l : List Str} (he : (everyM many, l) ∈ st) : l.length = n ∧ LeastMeet ch many n := by
  obtain ⟨l1, cs, l2, hc, q⟩ := h.sound _ he
  exact ⟨l1, ⟨cs, l2, hc, q.symm⟩, le⟩
theorem stOk_more {ch : List (Nat × Str)} {many n : Nat} {st : Stg} (h : StOk ch many n st) (no : everyM many ∉ keysOf st) {T : List Nat} (h1 : ∀ c ∈ T, c ∈ ch.map (·.1)) (h2 : orM T = everyM many) (le : n ≤ T.length) : n + 1 ≤ T.length := by
  obtain ⟨e, he, T', l1, hT, q⟩ := h.whole T h1 h2 le
  cases T' with
  | nil =>
    rw [show orM [] = 0 from rfl, Nat.or_zero] at q
    exact absurd (List.mem_map.mpr ⟨e, he, q⟩) no
  | cons c T' =>
    rw [List.length_cons] at l1
    omega
end G14

set_option maxHeartbeats 8000000
namespace G14
open PySem PySem.Spec PyProof.Rows L2 G1
/-- a stage as a dict: numbers to lists of names -/
def stV : Stg → List Addr → List (Key × V)
  | e :: st, a :: as => ((.inl (e.1 : Int) : Key), V.ref a) :: stV st as
  | _, _ => []
theorem stV_snoc : ∀ {st : Stg} {as : List Addr} {e : Nat × List Str} {a : Addr}, as.length = st.length → stV (st ++ [e]) (as ++ [a]) = stV st as ++ [((.inl (e.1 : Int) : Key), V.ref a)]
  | [], [], _, _, _ => rfl
  | d :: st, b :: as, e, a, h => by
    show _ :: stV (st ++ [e]) (as ++ [a]) = _ :: (stV st as ++ _)
    rw [stV_snoc (Nat.succ.inj h)]
theorem stV_len : ∀ {st : Stg} {as : List Addr}, as.length = st.length → (stV st as).length = st.length
  | [], [], _ => rfl
  | _ :: st, _ :: as, h => by
    show (stV st as).length + 1 = st.length + 1
    rw [stV_len (Nat.succ.inj h)]
theorem stV_at : ∀ {st : Stg} {as : List Addr} {i : Nat} {e : Nat × List Str}, as.length = st.length → st[i]? = some e → ∃ a, as[i]? = some a ∧ (stV st as)[i]? = some ((.inl (e.1 : Int) : Key), V.ref a)
  | d :: st, b :: as, 0, e, h, q => by
    cases q
    exact ⟨b, rfl, rfl⟩
  | d :: st, b :: as, i + 1, e, h, q => stV_at (st := st) (as := as) (i := i) (Nat.succ.inj h) q
theorem stV_val : ∀ {st : Stg} {as : List Addr} {m : Nat}, as.length = st.length → (valV (stV st as) (.inl (m : Int))).isSome = decide (m ∈ keysOf st)
  | [], [], m, _ => rfl
  | e :: st, a :: as, m, h => by
    show (valV (((.inl (e.1 : Int) : Key), V.ref a) :: stV st as) (.inl (m : Int))).isSome = _
    unfold keysOf
    rw [List.map_cons]
    by_cases q : e.1 = m
    · rw [valV_pos (by rw [q]), decide_eq_true (List.mem_cons.mpr (.inl q.symm))]
      rfl
    · rw [valV_neg (fun z => q (by have := Sum.inl.inj z; omega)), stV_val (Nat.succ.inj h), Bool.eq_iff_iff, decide_eq_true_iff, decide_eq_true_iff, List.mem_cons]
      exact ⟨.inr, fun z => z.elim (fun z => absurd z.symm q) id⟩
theorem stV_new {st : Stg} {as : List Addr} {m : Nat} (h : as.length = st.length) (n : m ∉ keysOf st) : valV (stV st as) (.inl (m : Int)) = none := by
  have q := stV_val (m := m) h
  rw [decide_eq_false n] at q
  cases e : valV (stV st as) (.inl (m : Int)) with
  | none => rfl
  | some v => rw [e] at q; cases q
def chV (ch : List (Nat × Str)) : List (Key × V) := ch.map fun c => ((.inl (c.1 : Int) : Key), V.str c.2)
structure StAt (H : Hp) (S : Addr) (st : Stg) (as : List Addr) : Prop where
  at_ : H S = some (.dK (stV st as))
  rows : RowsAt H as (st.map (·.2))
theorem StAt.len {H : Hp} {S : Addr} {st : Stg} {as : List Addr} (h : StAt H S st as) : as.length = st.length := by
  have := h.rows.len
  rwa [List.length_map] at this
def spOneMore : Sp := fun vs H Q _ => ∃ (S Cd : Addr) (st : Stg) (as : List Addr) (ch : List (Nat × Str)), vs = [.ref S, .ref Cd] ∧ StAt H S st as ∧ H Cd = some (.dK (chV ch)) ∧ S ≠ Cd ∧ (∀ z ∈ keysOf st, z < 2 ^ 20) ∧ (∀ c ∈ ch.map (·.1), c < 2 ^ 20) ∧ (∀ e ∈ st, e.2.length ≤ 100) ∧
  ∀ (D : Addr) (bs : List Addr) (H' : Hp), Same H H' → H D = none → StAt H' D (oneM ch st) bs → Q (.ref D) H'
theorem nd_sub_len {α : Type} [DecidableEq α] : ∀ {l m : List α}, l.Nodup → (∀ x ∈ l, x ∈ m) → l.length ≤ m.length
  | [], _, _, _ => Nat.zero_le _
  | x :: l, m, nd, h => by
    obtain ⟨n1, n2⟩ := List.nodup_cons.mp nd
    have hx := h x List.mem_cons_self
    have ih := nd_sub_len (l := l) (m := m.erase x) n2 fun y hy => (List.mem_erase_of_ne (fun (e : y = x) => n1 (by rw [← e]; exact hy))).mpr (h y (List.mem_cons_of_mem _ hy))
    rw [List.length_erase_of_mem hx] at ih
    have := List.length_pos_of_mem hx
    rw [List.length_cons]
    omega
theorem or_lt {a b n : Nat} (h1 : a < 2 ^ n) (h2 : b < 2 ^ n) : a ||| b < 2 ^ n := Nat.or_lt_two_pow h1 h2
theorem keys_fit {st : Stg} (nd : (keysOf st).Nodup) (lt : ∀ z ∈ keysOf st, z < 2 ^ 20) : st.length < sizeLine := by
  have h := nd_sub_len (m := List.range (2 ^ 20)) nd fun z hz => List.mem_range.mpr (lt z hz)
  unfold keysOf at h
  rw [List.length_map, List.length_range] at h
  exact Nat.lt_of_le_of_lt h (by decide)
theorem stepIn_nd {m : Nat} {l : List Str} : ∀ {ch : List (Nat × Str)} {fd : Stg}, (keysOf fd).Nodup → (keysOf (stepIn m l ch fd)).Nodup
  | [], _, h => h
  | _ :: ch, _, h => stepIn_nd (ch := ch) (addIn_nd h)
theorem oneM_nd {ch : List (Nat × Str)} {st : Stg} : (keysOf (oneM ch st)).Nodup := by
  have q : ∀ (st fd : Stg), (keysOf fd).Nodup → (keysOf (st.foldl (fun fd e => stepIn e.1 e.2 ch fd) fd)).Nodup := fun st => by
    induction st with
    | nil => exact fun _ h => h
    | cons e st ih => exact fun fd h => ih _ (stepIn_nd h)
  exact q st [] .nil
theorem addIn_lt {m : Nat} {l : List Str} {fd : Stg} {c : Nat × Str} (h : ∀ z ∈ keysOf fd, z < 2 ^ 20) (hm : m < 2 ^ 20) (hc : c.1 < 2 ^ 20) : ∀ z ∈ keysOf (addIn m l fd c), z < 2 ^ 20 := fun z hz => by
  unfold addIn at hz
  split at hz
  · unfold keysOf at hz
    rw [List.map_append] at hz
    rcases List.mem_append.mp hz with hz | hz
    · exact h z hz
    · rw [List.mem_singleton.mp hz]
      exact or_lt hm hc
  · exact h z hz
/-- what is found so far -/
structure FdAt (H : Hp) (D : Addr) (H' : Hp) (fd : Stg) (bs : List Addr) : Prop where
  st : StAt H' D fd bs
  new : ∀ b ∈ bs, H b = none ∧ b ≠ D
  nd : (keysOf fd).Nodup
  lt : ∀ z ∈ keysOf fd, z < 2 ^ 20
theorem FdAt.keep {H H' H'' : Hp} {D : Addr} {fd : Stg} {bs : List Addr} (h : FdAt H D H' fd bs) (kD : ∀ o, H' D = some o → H'' D = some o) (k : ∀ b, H b = none → ∀ o, H' b = some o → H'' b = some o) : FdAt H D H'' fd bs :=
  ⟨⟨kD _ h.st.at_, h.st.rows.keep fun b hb o e => k b (h.new b hb).1 o e⟩, h.new, h.nd, h.lt⟩
theorem fl_eq {m : Nat} : Builtin.bitAnd (Builtin.bitNot (m : Int)) ((m : Int) + 1) = ((flM m : Nat) : Int) := by
  have q := bandnot_nat (m + 1) m
  have cm : Builtin.bitAnd (Builtin.bitNot (m : Int)) ((m : Int) + 1) = Builtin.bitAnd (((m + 1 : Nat) : Int)) (Builtin.bitNot (m : Int)) := by
    have n2 : ¬ (0 : Int) ≤ Builtin.bitNot (m : Int) := by unfold Builtin.bitNot; omega
    rw [show ((m + 1 : Nat) : Int) = (m : Int) + 1 by omega]
    unfold Builtin.bitAnd
    rw [decide_eq_true (show (0 : Int) ≤ (m : Int) + 1 by omega), decide_eq_false n2]
  rw [cm, q]
  rfl
theorem fl_tru {m c : Nat} : (Builtin.bitAnd (c : Int) (Builtin.bitAnd (Builtin.bitNot (m : Int)) ((m : Int) + 1)) != 0) = flB m c := by
  rw [fl_eq, band_nat]
  unfold flB
  rw [Bool.eq_iff_iff, bne_iff_ne, bne_iff_ne]
  exact ⟨fun h e => h (by omega), fun h e => h (by omega)⟩
def fdTo (ch : List (Nat × Str)) (st : Stg) (j : Nat) : Stg := (st.take j).foldl (fun fd e => stepIn e.1 e.2 ch fd) []
theorem fdTo_succ {ch : List (Nat × Str)} {st : Stg} {j : Nat} {e : Nat × List Str} (h : st[j]? = some e) : fdTo ch st (j + 1) = stepIn e.1 e.2 ch (fdTo ch st j) := by
  unfold fdTo
  rw [List.take_succ, h, List.foldl_append]
  rfl
theorem stepIn_take {m : Nat} {l : List Str} {ch : List (Nat × Str)} {fd : Stg} {i : Nat} {c : Nat × Str} (h : ch[i]? = some c) : stepIn m l (ch.take (i + 1)) fd = addIn m l (stepIn m l (ch.take i) fd) c := by
  unfold stepIn
  rw [List.take_succ, h, List.foldl_append]
  rfl
section
variable {P : Program} {w : World} {K : PySem.W.Frag} {mg : Str → Option Value} {base : Heap} {C : Addr}
abbrev sOneMore : Stmt := top 49
abbrev nOneMore : List Str := ["stage", "choices", "found", "met", "chosen", "first_left", "choice", "name"]
theorem scOneMore : FnScope nOneMore ["stage", "choices"] (defScope sOneMore) := ⟨rfl, rfl, rfl, by decide +kernel, rfl, by decide +kernel, by decide +kernel⟩
theorem ok_oneMore {f : Addr} {fd : FuncData} (F : FnP K "one_more" sOneMore f fd) : FnOk P w K mg base CX0 1 f fd ["stage", "choices"] spOneMore := by
  refine okN F scOneMore (fun vs H Q E h => ?_) (fun cdv A outer s H vs Q E hr h => ?_)
  · obtain ⟨_, _, _, _, _, rfl, _⟩ := h
    rfl
  · obtain ⟨S, Cd, st, as, ch, rfl, hst, hch, nSC, ltS, ltC, l100, k⟩ := h
    have hun := hr.un
    have nd := scOneMore.nd
    have hu1 : (A.deeper (envOfC "one_more" (defScope sOneMore) s.heap.objs.size f cdv)).units + 1 < cLine := by omega
    refine ⟨_, pss_cons (ps_set (i := 2) nd rfl (Or.inl rfl) pe_dnewK) (pss_cons (ps_lock (ps_for PassesOwn.never rfl (pi_items (pv 0)) (pg_tup (n := 2) (by rfl) (pgs_cons (pg_name (i := 3) nd rfl (Or.inl rfl)) (pgs_cons (pg_name (i := 4) nd rfl (Or.inl rfl)) pgs_nil)))
        (pss_cons (ps_set (i := 5) nd rfl (Or.inl rfl) (pe_op op_and (pe_un un_inv (pv 3)) (pe_op op_add (pv 3) pe_int)))
        (pss_one (ps_lock (ps_for PassesOwn.never rfl (pi_items (pv 1)) (pg_tup (n := 2) (by rfl) (pgs_cons (pg_name (i := 6) nd rfl (Or.inl rfl)) (pgs_cons (pg_name (i := 7) nd rfl (Or.inl rfl)) pgs_nil)))
          (pss_one (ps_if (PW.pt (pw_and (pt_truth (pe_op op_and (pv 6) (pv 5)) (fun _ => rfl)) (pw_and1 (pt_cmp (pc_dnotin hu1 (pe_op op_or (pv 3) (pv 6)) (pv 2))))))
            (pss_one (ps_dput hu1 (pv 2) (pe_op op_or (pv 3) (pv 6)) (pe_op op_cat (pv 4) (pe_lst (pa_cons (pv 7) pa_nil))) (by rfl))) pss_nil))))))))
      (pss_one (ps_ret (pv 2)))), ?_⟩
    refine fun D nD => ?_
    have sD := sn nD (o := .dK [])
    have nSD : S ≠ D := ne_of_none hst.at_ nD
    have nCD : Cd ≠ D := ne_of_none hch nD
    have hD0 : upd H D (.dK []) D = some (.dK []) := upd_same
    generalize upd H D (.dK []) = H1 at sD hD0 ⊢
    refine ⟨S, .dK (stV st as), sD _ _ hst.at_, trivial, fun od => ?_⟩
    have fz : upd H1 S (.frz od (.dK (stV st as))) S = some (.frz od (.dK (stV st as))) := upd_same
    have keep : ∀ (c : Addr) (o : HO), c ≠ S → H c = some o → upd H1 S (.frz od (.dK (stV st as))) c = some o := fun c o n e => by rw [upd_ne n]; exact sD _ _ e
    have hD1 : upd H1 S (.frz od (.dK (stV st as))) D = some (.dK []) := by rw [upd_ne (Ne.symm nSD)]; exact hD0
    generalize upd H1 S (.frz od (.dK (stV st as))) = H2 at fz keep hD1 ⊢
    have lS := hst.len
    refine ⟨_, rfl, S, od, stV st as, rfl, fz, for_it (walk_items (d := S) (o := od) (kvs := stV st as)) (fun j σ H' => ∃ (o3 o4 o5 o6 o7 : Option V) (bs : List Addr), σ = [some (.ref S), some (.ref Cd), some (.ref D), o3, o4, o5, o6, o7] ∧ H' S = some (.frz od (.dK (stV st as))) ∧ (∀ (c : Addr) (o : HO), c ≠ S → H c = some o → H' c = some o) ∧ FdAt H D H' (fdTo ch st j) bs)
      ⟨none, none, none, none, none, [], rfl, fz, keep, ⟨hD1, .nil⟩, (fun b hb => nomatch hb), .nil, fun z hz => nomatch hz⟩ (fun j σ H' _ h => by obtain ⟨_, _, _, _, _, _, _, h, _⟩ := h; exact h) ?_ ?_⟩
    · rintro j x H3σ H3 H4 hj ⟨o3, o4, o5, o6, o7, bs, rfl, f3, k3, fd3⟩ ⟨T, u, v, rfl, nT, rfl, eu, ev⟩
      rw [stV_len lS] at hj
      have ex : st[j]? = some st[j] := List.getElem?_eq_getElem hj
      generalize st[j] = e at ex
      obtain ⟨m, l⟩ := e
      obtain ⟨a, ea, es⟩ := stV_at lS ex
      dsimp only at eu ev
      rw [es] at eu ev
      obtain rfl : V.int (m : Int) = u := Option.some.inj eu
      obtain rfl : V.ref a = v := Option.some.inj ev
      obtain ⟨l', el, hrow⟩ := hst.rows.at ea
      rw [List.getElem?_map, ex] at el
      obtain rfl : l = l' := Option.some.inj el
      have hm : m < 2 ^ 20 := ltS m (List.mem_map.mpr ⟨_, List.mem_of_getElem? ex, rfl⟩)
      have ll : l.length ≤ 100 := l100 _ (List.mem_of_getElem? ex)
      have sT := sn nT (o := .tup [.int (m : Int), .ref a])
      have hT : upd H3 T (.tup [.int (m : Int), .ref a]) T = some (.tup [.int (m : Int), .ref a]) := upd_same
      generalize upd H3 T (.tup [.int (m : Int), .ref a]) = H4 at sT hT ⊢
      refine ⟨T, _, rfl, SqT.of hT, rfl, _, _, rfl, _, _, rfl, rfl, ?_⟩
      refine ⟨_, rfl, _, rfl, _, rfl, _, _, rfl, rfl, _, _, rfl, rfl, ?_⟩
      have naS : a ≠ S := fun q => by
        rw [q, hst.at_] at hrow
        cases hrow
      have naC : a ≠ Cd := fun q => by
        rw [q, hch] at hrow
        cases hrow
      have hC4 := sT _ _ (k3 _ _ (Ne.symm nSC) hch)
      refine ⟨Cd, .dK (chV ch), hC4, trivial, fun od2 => ?_⟩
      have g1 : upd H4 Cd (.frz od2 (.dK (chV ch))) Cd = some (.frz od2 (.dK (chV ch))) := upd_same
      have g2 : upd H4 Cd (.frz od2 (.dK (chV ch))) S = some (.frz od (.dK (stV st as))) := by rw [upd_ne nSC]; exact sT _ _ f3
      have g3 : ∀ (c : Addr) (o : HO), c ≠ S → c ≠ Cd → H c = some o → upd H4 Cd (.frz od2 (.dK (chV ch))) c = some o := fun c o n n2 e => by rw [upd_ne n2]; exact sT _ _ (k3 c o n e)
      have g4 : FdAt H D (upd H4 Cd (.frz od2 (.dK (chV ch)))) (fdTo ch st j) bs := fd3.keep (fun o e => by rw [upd_ne (Ne.symm nCD)]; exact sT _ _ e) fun b hb o e => by rw [upd_ne (Ne.symm (ne_of_none hch hb))]; exact sT _ _ e
      generalize upd H4 Cd (.frz od2 (.dK (chV ch))) = H5 at g1 g2 g3 g4 ⊢
      refine ⟨_, rfl, Cd, od2, chV ch, rfl, g1, for_it (walk_items (d := Cd) (o := od2) (kvs := chV ch)) (fun i σ H' => ∃ (o6 o7 : Option V) (bs : List Addr), σ = [some (.ref S), some (.ref Cd), some (.ref D), some (.int (m : Int)), some (.ref a), some (.int (Builtin.bitAnd (Builtin.bitNot (m : Int)) ((m : Int) + 1))), o6, o7] ∧
          H' Cd = some (.frz od2 (.dK (chV ch))) ∧ H' S = some (.frz od (.dK (stV st as))) ∧ (∀ (c : Addr) (o : HO), c ≠ S → c ≠ Cd → H c = some o → H' c = some o) ∧ FdAt H D H' (stepIn m l (ch.take i) (fdTo ch st j)) bs)
        ⟨o6, o7, bs, rfl, g1, g2, g3, g4⟩ (fun i σ H' _ h => by obtain ⟨_, _, _, _, h, _⟩ := h; exact h) ?_ ?_⟩
      · rintro i x2 H6σ H6 H7 hi ⟨o6, o7, bs, rfl, p1, p2, p3, p4⟩ ⟨T2, u2, v2, rfl, nT2, rfl, eu2, ev2⟩
        dsimp only at eu2 ev2
        unfold chV at eu2 ev2 hi
        rw [List.length_map] at hi
        have ec : ch[i]? = some ch[i] := List.getElem?_eq_getElem hi
        rw [List.getElem?_map, ec] at eu2 ev2
        generalize ch[i] = c at ec eu2 ev2
        obtain ⟨c, nm⟩ := c
        obtain rfl : V.int (c : Int) = u2 := Option.some.inj eu2
        obtain rfl : V.str nm = v2 := Option.some.inj ev2
        have hc : c < 2 ^ 20 := ltC c (List.mem_map.mpr ⟨_, List.mem_of_getElem? ec, rfl⟩)
        have sT2 := sn nT2 (o := .tup [.int (c : Int), .str nm])
        have hT2 : upd H6 T2 (.tup [.int (c : Int), .str nm]) T2 = some (.tup [.int (c : Int), .str nm]) := upd_same
        generalize upd H6 T2 (.tup [.int (c : Int), .str nm]) = H7 at sT2 hT2 ⊢
        have p1' := sT2 _ _ p1
        have p2' := sT2 _ _ p2
        have p3' : ∀ (c : Addr) (o : HO), c ≠ S → c ≠ Cd → H c = some o → H7 c = some o := fun c o n n2 e => sT2 _ _ (p3 c o n n2 e)
        have p4' : FdAt H D H7 (stepIn m l (ch.take i) (fdTo ch st j)) bs := p4.keep (fun o e => sT2 _ _ e) fun b _ o e => sT2 _ _ e
        refine ⟨T2, _, rfl, SqT.of hT2, rfl, _, _, rfl, _, _, rfl, rfl, ?_⟩
        refine ⟨_, rfl, _, rfl, _, _, rfl, rfl, flB m c, fl_tru.symm, ?_⟩
        have stp := stepIn_take (m := m) (l := l) (fd := fdTo ch st j) ec
        generalize stepIn m l (ch.take i) (fdTo ch st j) = fd at p4' stp
        have lb := p4'.st.len
        cases e1 : flB m c with
        | false =>
          refine iteF (iteF ⟨_, _, bs, rfl, p1', p2', p3', ?_⟩)
          rw [stp]
          unfold addIn
          rw [if_neg fun z => by rw [e1] at z; cases z.1]
          exact p4'
        | true =>
          have dg : DGet H7 D (.int (Builtin.bitOr (m : Int) (c : Int))) (valV (stV fd bs) (.inl ((m ||| c : Nat) : Int))) := by
            rw [bor_nat]
            exact DGet.k (k := .inl ((m ||| c : Nat) : Int)) p4'.st.at_
          refine iteT ⟨_, rfl, _, rfl, _, _, rfl, rfl, _, rfl, D, _, rfl, dg, _, rfl, ?_⟩
          rw [stV_val lb]
          by_cases q : (m ||| c) ∈ keysOf fd
          · rw [decide_eq_true q]
            refine iteF ⟨_, _, bs, rfl, p1', p2', p3', ?_⟩
            rw [stp]
            unfold addIn
            rw [if_neg fun z => z.2 q]
            exact p4'
          · rw [decide_eq_false q]
            refine iteT ⟨_, rfl, _, rfl, (show 1 ≤ sizeLine by decide), fun N1 nN1 => ?_⟩
            have s1 := sn nN1 (o := .lst [.str nm])
            have hN1 : upd H7 N1 (.lst [.str nm]) N1 = some (.lst [.str nm]) := upd_same
            generalize upd H7 N1 (.lst [.str nm]) = H8 at s1 hN1 ⊢
            refine ⟨a, N1, _, _, rfl, rfl, s1 _ _ (p3' _ _ naS naC hrow), hN1, Nat.le_of_lt (small1000 (by rw [List.length_map, List.length_singleton]; omega)), fun N2 nN2 => ?_⟩
            have s2 := sn nN2 (o := .lst (l.map V.str ++ [.str nm]))
            have hN2 : upd H8 N2 (.lst (l.map V.str ++ [.str nm])) N2 = some (.lst (l.map V.str ++ [.str nm])) := upd_same
            generalize upd H8 N2 (.lst (l.map V.str ++ [.str nm])) = H9 at s2 hN2 ⊢
            have s79 := s1.trans s2
            have hD9 := s79 _ _ p4'.st.at_
            have nN2D : N2 ≠ D := Ne.symm (ne_of_none (s1 _ _ p4'.st.at_) nN2)
            have nN2H : H N2 = none := by
              cases z : H N2 with
              | none => rfl
              | some o =>
                by_cases zS : N2 = S
                · rw [zS, s1 _ _ p2'] at nN2
                  cases nN2
                · by_cases zC : N2 = Cd
                  · rw [zC, s1 _ _ p1'] at nN2
                    cases nN2
                  · rw [s1 _ _ (p3' _ _ zS zC z)] at nN2
                    cases nN2
            have ki := keys_fit p4'.nd p4'.lt
            refine ⟨_, rfl, _, rfl, _, rfl, _, _, rfl, rfl, D, _, rfl, .inl ⟨_, .inl ((m ||| c : Nat) : Int), hD9, congrArg V.int (bor_nat m c), by rw [stV_len lb]; exact ki, rfl⟩, ?_⟩
            rw [putK_new _ (stV_new lb q), ← stV_snoc (e := (m ||| c, l ++ [nm])) lb]
            have ad : addIn m l fd (c, nm) = fd ++ [(m ||| c, l ++ [nm])] := by
              unfold addIn
              rw [if_pos ⟨e1, q⟩]
            refine ⟨_, _, bs ++ [N2], rfl, by rw [upd_ne nCD]; exact s79 _ _ p1', by rw [upd_ne nSD]; exact s79 _ _ p2', fun b o n n2 z => by rw [upd_ne (ne_of_none z nD)]; exact s79 _ _ (p3' b o n n2 z), ?_⟩
            rw [stp, ad]
            refine ⟨⟨upd_same, ?_⟩, fun b hb => ?_, by rw [← ad]; exact addIn_nd p4'.nd, by rw [← ad]; exact addIn_lt p4'.lt hm hc⟩
            · rw [List.map_append]
              exact RowsAt.snoc (p4'.st.rows.keep fun b hb o z => by rw [upd_ne (p4'.new b hb).2]; exact s79 _ _ z) (by rw [upd_ne nN2D, hN2, List.map_append]; rfl)
            · rcases List.mem_append.mp hb with hb | hb
              · exact p4'.new b hb
              · rw [List.mem_singleton.mp hb]
                exact ⟨nN2H, nN2D⟩
      · rintro H6σ H6 ⟨o6, o7, bs, rfl, p1, p2, p3, p4⟩
        rw [show (chV ch).length = ch.length from List.length_map _, List.take_length, ← fdTo_succ ex] at p4
        refine ⟨p1, _, _, _, _, _, bs, rfl, by rw [upd_ne nSC]; exact p2, fun b o n z => ?_, p4.keep (fun o e => by rw [upd_ne (Ne.symm nCD)]; exact e) fun b hb o e => by rw [upd_ne (Ne.symm (ne_of_none hch hb))]; exact e⟩
        by_cases qb : b = Cd
        · rw [qb, upd_same]
          rw [qb, hch] at z
          exact z
        · rw [upd_ne qb]
          exact p3 b o n qb z
    · rintro H3σ H3 ⟨o3, o4, o5, o6, o7, bs, rfl, f3, k3, fd3⟩
      rw [stV_len lS, show fdTo ch st st.length = oneM ch st by unfold fdTo oneM; rw [List.take_length]] at fd3
      refine ⟨f3, _, rfl, k D bs _ (fun b o z => ?_) nD (FdAt.keep fd3 (fun o e => by rw [upd_ne (Ne.symm nSD)]; exact e) fun b hb o e => by rw [upd_ne (Ne.symm (ne_of_none hst.at_ hb))]; exact e).st⟩
      by_cases qb : b = S
      · rw [qb, upd_same]
        rw [qb, hst.at_] at z
        exact z
      · rw [upd_ne qb]
        exact k3 b o qb z
end
end G14

set_option maxHeartbeats 8000000
namespace G14
open PySem PySem.Spec PyProof.Rows L2 G1
def spSMeet : Sp := fun vs H Q _ => ∃ (Cd : Addr) (many : Nat) (ch : List (Nat × Str)), vs = [.ref Cd, .int (many : Int)] ∧ H Cd = some (.dK (chV ch)) ∧ many ≤ 20 ∧ ch.length ≤ 40 ∧ (∀ c ∈ ch.map (·.1), c < 2 ^ many) ∧
  (∀ H', Same H H' → (∀ T : List Nat, (∀ c ∈ T, c ∈ ch.map (·.1)) → orM T ≠ everyM many) → Q .non H') ∧
  ∀ (L : Addr) (l : List Str) (H' : Hp), Same H H' → H' L = some (.lst (l.map V.str)) → l.length ≤ 40 → LeastMeet ch many l.length → Q (.ref L) H'
theorem every_eq {many : Nat} : (1 : Int) * 2 ^ ((many : Nat) : Int).toNat - 1 = ((everyM many : Nat) : Int) := by
  have h := Nat.two_pow_pos many
  unfold everyM
  rw [Int.toNat_natCast, Int.one_mul]
  have e : ((2 ^ many : Nat) : Int) = (2 : Int) ^ many := by rw [Int.natCast_pow]; rfl
  omega
theorem chV_keys {ch : List (Nat × Str)} : (chV ch).map (fun kv => kV kv.1) = mskV (ch.map (·.1)) := by
  unfold chV mskV
  rw [List.map_map, List.map_map]
  rfl
theorem stV_get : ∀ {st : Stg} {as : List Addr} {m : Nat}, as.length = st.length → m ∈ keysOf st → ∃ (i : Nat) (a : Addr) (l : List Str), st[i]? = some (m, l) ∧ as[i]? = some a ∧ valV (stV st as) (.inl (m : Int)) = some (.ref a)
  | e :: st, a :: as, m, h, q => by
    by_cases z : e.1 = m
    · obtain ⟨k, l⟩ := e
      obtain rfl : k = m := z
      exact ⟨0, a, l, rfl, rfl, valV_pos rfl⟩
    · have q2 : m ∈ keysOf st := (List.mem_cons.mp q).elim (fun y => absurd y.symm z) id
      obtain ⟨i, b, l, h1, h2, h3⟩ := stV_get (Nat.succ.inj h) q2
      exact ⟨i + 1, b, l, h1, h2, (valV_neg (fun y => z (by have := Sum.inl.inj y; omega))).trans h3⟩
section
variable {P : Program} {w : World} {K : PySem.W.Frag} {mg : Str → Option Value} {base : Heap} {C : Addr}
abbrev sSMeet : Stmt := top 48
abbrev nSMeet : List Str := ["choices", "many", "every", "stage"]
theorem scSMeet : FnScope nSMeet ["choices", "many"] (defScope sSMeet) := ⟨rfl, rfl, rfl, by decide +kernel, rfl, by decide +kernel, by decide +kernel⟩
theorem ok_sMeet {f : Addr} {fd : FuncData} (F : FnP K "shortest_meeting" sSMeet f fd) (LP : LibP mg) (DU : Df P w K mg base 1 "united" sUnited ["masks"] spUnited) (DM : Df P w K mg base 1 "one_more" sOneMore ["stage", "choices"] spOneMore) : FnOk P w K mg base CX0 2 f fd ["choices", "many"] spSMeet := by
  refine okN F scSMeet (fun vs H Q E h => ?_) (fun cdv A outer s H vs Q E hr h => ?_)
  · obtain ⟨_, _, _, rfl, _⟩ := h
    rfl
  · obtain ⟨Cd, many, ch, rfl, hch, l20, l40, lt, k1, k2⟩ := h
    have hun := hr.un
    have nd := scSMeet.nd
    have hu1 : (A.deeper (envOfC "shortest_meeting" (defScope sSMeet) s.heap.objs.size f cdv)).units + 1 < cLine := by omega
    refine' ⟨_, pss_cons ?b0 (pss_cons ?b1 (pss_cons ?b2 (pss_cons ?b3 (pss_one ?b4)))), ?_⟩
    case b0 => exact (ps_set (i := 2) nd rfl (Or.inl rfl) (pe_op op_sub (pe_op op_shl pe_int (pv 1)) pe_int))
    case b1 => exact (ps_if (pt_cmpR op_ne (pe_df DU hr (by rfl) (pa_cons (pe_callTy (call_listD rfl) (by rfl) LP.list (by decide +kernel) (pa_cons (pv 0) pa_nil)) pa_nil)) (pv 2) (nomark _)) (pss_one (ps_ret pe_non)) pss_nil)
    case b2 => exact (ps_set (i := 3) nd rfl (Or.inl rfl) (pe_disp (pps_cons pe_int (pe_lst pa_nil) pps_nil) rfl rfl (by decide) (by decide)))
    case b3 => exact (ps_while PassesOwn.never (pt_cmp (pc_dnotin hu1 (pv 2) (pv 3))) (pss_one (ps_set (i := 3) nd rfl (Or.inl rfl) (pe_df DM hr (by rfl) (pa_cons (pv 3) (pa_cons (pv 0) pa_nil))))))
    case b4 => exact (ps_ret (pe_dget hu1 (pv 3) (pv 2) (fun _ _ => rfl)))
    refine ⟨_, rfl, _, _, rfl, rfl, ⟨by omega, by omega, by decide⟩, _, _, rfl, rfl, ?_⟩
    show gName 2 (V.int ((1 : Int) * 2 ^ ((many : Nat) : Int).toNat - 1)) _ _ _
    rw [every_eq]
    refine ⟨_, rfl, Cd, chV ch, rfl, .of hch, fun p np => ⟨p, ch.map (·.1), rfl, by rw [upd_same, chV_keys], _, rfl, rfl, _, rfl, ?_⟩⟩
    have sp := sn np (o := .lst ((chV ch).map fun kv => kV kv.1))
    generalize upd H p (.lst ((chV ch).map fun kv => kV kv.1)) = H1 at sp ⊢
    by_cases q : orM (ch.map (·.1)) = everyM many
    · rw [q, decide_eq_true rfl]
      refine iteF ?_
      refine fun S nS => ⟨Nat.zero_le _, fun L0 nL0 => ?_⟩
      have hS0 : upd H1 S (.dK []) S = some (.dK []) := upd_same
      have s2 := (sn nS (o := .dK [])).trans (sn nL0 (o := .lst []))
      have hL0 : upd (upd H1 S (.dK [])) L0 (.lst []) L0 = some (.lst []) := upd_same
      have hS1 := sn nL0 (o := .lst []) _ _ hS0
      have nLS : L0 ≠ S := Ne.symm (ne_of_none hS0 nL0)
      generalize upd (upd H1 S (.dK [])) L0 (.lst []) = H2 at s2 hL0 hS1 ⊢
      refine ⟨hS1, [(.inl 0, .ref L0)], rfl, (show 1 ≤ 15 by decide), ?_⟩
      have hS3 : StAt (upd H2 S (.dK (mergeK [] [(.inl 0, .ref L0)]))) S [(0, [])] [L0] := ⟨upd_same, .cons (by rw [upd_ne nLS]; exact hL0) .nil⟩
      have s3 : Same H (upd H2 S (.dK (mergeK [] [(.inl 0, .ref L0)]))) := fun b o e => by
        rw [upd_ne (ne_of_none (sp _ _ e) nS)]
        exact s2 _ _ (sp _ _ e)
      have nSH : H S = none := sp.free nS
      generalize upd H2 S (.dK (mergeK [] [(.inl 0, .ref L0)])) = H3 at hS3 s3 ⊢
      have lT : ∀ c ∈ ch.map (·.1), c ∈ ch.map (·.1) := fun _ h => h
      refine ⟨fun m σ H' => ∃ (n : Nat) (st : Stg) (as : List Addr) (S : Addr), σ = [some (.ref Cd), some (.int (many : Int)), some (.int ((everyM many : Nat) : Int)), some (.ref S)] ∧ StAt H' S st as ∧ StOk ch many n st ∧ Same H H' ∧ S ≠ Cd ∧ (∀ T : List Nat, (∀ c ∈ T, c ∈ ch.map (·.1)) → orM T = everyM many → n ≤ T.length) ∧ m = ch.length - n,
        ⟨_, 0, _, _, S, rfl, hS3, stOk_zero, s3, Ne.symm (ne_of_none hch nSH), fun _ _ _ => Nat.zero_le _, rfl⟩, ?_⟩
      rintro m σ H4 ⟨n, st, as, S, rfl, hst, ok, s4, nSC, least, rfl⟩
      have l1 := hst.len
      have ln : n ≤ ch.length := by
        have := least _ lT q
        rwa [List.length_map] at this
      refine ⟨_, rfl, _, rfl, S, _, rfl, DGet.k (k := .inl ((everyM many : Nat) : Int)) hst.at_, _, rfl, ?_⟩
      rw [stV_val l1]
      by_cases z : everyM many ∈ keysOf st
      · rw [decide_eq_true z]
        refine iteF ?_
        obtain ⟨i, a, l, h1, h2, h3⟩ := stV_get l1 z
        obtain ⟨l', e1, e2⟩ := hst.rows.at h2
        rw [List.getElem?_map, h1] at e1
        obtain rfl := Option.some.inj e1
        obtain ⟨el, lm⟩ := stOk_end ok least (List.mem_of_getElem? h1)
        refine ⟨_, rfl, _, rfl, S, _, rfl, ?_, k2 a l H4 s4 e2 (by omega) (by rw [el]; exact lm)⟩
        rw [← h3]
        exact DGet.k (k := .inl ((everyM many : Nat) : Int)) hst.at_
      · rw [decide_eq_false z]
        refine iteT ?_
        have least2 : ∀ T : List Nat, (∀ c ∈ T, c ∈ ch.map (·.1)) → orM T = everyM many → n + 1 ≤ T.length := fun T h1 h2 => stOk_more ok z h1 h2 (least T h1 h2)
        have ln2 : n + 1 ≤ ch.length := by
          have := least2 _ lT q
          rwa [List.length_map] at this
        have up : 2 ^ many ≤ 2 ^ 20 := Nat.pow_le_pow_right (by decide) l20
        refine ⟨fun σ' H' => ∃ (st : Stg) (as : List Addr) (S : Addr), σ' = [some (.ref Cd), some (.int (many : Int)), some (.int ((everyM many : Nat) : Int)), some (.ref S)] ∧ StAt H' S st as ∧ StOk ch many (n + 1) st ∧ Same H H' ∧ S ≠ Cd,
          fun σ' H' ⟨st, as, S, e, h1, h2, h3, h4⟩ => ⟨ch.length - (n + 1), by omega, n + 1, st, as, S, e, h1, h2, h3, h4, least2, rfl⟩, ?_⟩
        refine ⟨_, rfl, _, rfl, S, Cd, st, as, ch, rfl, hst, s4 _ _ hch, nSC, fun y hy => ?_, fun c hc => Nat.lt_of_lt_of_le (lt c hc) up, fun e he => by have := (ok.sound e he).1; omega, fun D bs H5 s5 nD hD => ?_⟩
        · obtain ⟨e, he, rfl⟩ := List.mem_map.mp hy
          exact Nat.lt_of_lt_of_le (ok.lt lt e he) up
        · exact ⟨oneM ch st, bs, D, rfl, hD, stOk_succ ok lt z, s4.trans s5, Ne.symm (ne_of_none (s4 _ _ hch) nD)⟩
    · rw [decide_eq_false (fun e => q (by have := V.int.inj e; omega))]
      refine iteT ?_
      refine k1 H1 sp fun T h1 h2 => q (Nat.eq_of_testBit_eq fun i => ?_)
      rw [Bool.eq_iff_iff, ← h2, orM_bit, orM_bit]
      constructor
      · rintro ⟨z, hz, hb⟩
        refine orM_bit.mp ?_
        rw [h2, every_bit]
        refine decide_eq_true (Nat.lt_of_not_le fun le => ?_)
        rw [Nat.testBit_lt_two_pow (Nat.lt_of_lt_of_le (lt z hz) (Nat.pow_le_pow_right (by decide) le))] at hb
        cases hb
      · rintro ⟨z, hz, hb⟩
        exact ⟨z, h1 z hz, hb⟩
end
end G14

set_option maxHeartbeats 8000000
namespace G14
open PySem PySem.Spec PyProof.Rows L2 G1
def spLMetF : Sp := fun vs H Q _ => ∃ (b m : Addr) (od : Obj) (xs : List Str) (zs : List Nat), vs = [.ref b, .ref m] ∧ H b = some (.frz od (.dK (dN xs (bitV xs)))) ∧ H m = some (.lst (mskV zs)) ∧ xs.Nodup ∧ xs.length ≤ 40 ∧ zs.length ≤ 60 ∧
  ∀ (D : Addr) (H' : Hp), Same H H' → H D = none → H' D = some (.dK (dN xs (metV xs zs))) → Q (.ref D) H'
section
variable {P : Program} {w : World} {K : PySem.W.Frag} {mg : Str → Option Value} {base : Heap} {C : Addr}
abbrev sLMet0 : Stmt := top 47
theorem ok_lMetF {f : Addr} {fd : FuncData} (F : FnP K "lots_met" sLMet f fd) (L : Lib K mg) (le : mg "enumerate" = none) : FnOk P w K mg base CX0 1 f fd ["bits", "masks"] spLMetF := by
  refine okN F scLMet (fun vs H Q E h => ?_) (fun cdv A outer s H vs Q E hr h => ?_)
  · obtain ⟨_, _, _, _, _, rfl, _⟩ := h
    rfl
  · obtain ⟨b, m, od, xs, zs, rfl, hb, hm, ndx, l40, l60, k⟩ := h
    have nd := scLMet.nd
    refine ⟨_, pss_one (ps_ret (pe_dc (own := [("name", 2), ("bit", 3)]) (g := gTup K 2 (gCons (gName 2) (gCons (gName 3) gNil))) (tt := tYes) (tk := tVar 2)
        (tv := tCB (rSum K) (tCons (tLc (iEnum K (tCons (tVar 1) tNil)) (gTup K 2 (gCons (gName 4) (gCons (gName 5) gNil))) (ttMet K) (tOp (rI CPow fun i j => .int (i * 2 ^ j.toNat)) (tC (.int 1)) (tVar 4)) [4, 5]) tNil)) rfl nd (pi_items (pv 0))
        (blkOk_by (N := nLMet) (sc := defScope sLMet) (by decide +kernel)) (fun _ _ _ _ _ => pg_tup (n := 2) (by rfl) (pgs_cons (pg_name (i := 2) scLMet.nd rfl (Or.inl rfl)) (pgs_cons (pg_name (i := 3) scLMet.nd rfl (Or.inr rfl)) pgs_nil)))
        (fun _ _ _ _ _ => pts_nil) (fun _ _ _ _ _ => pv 2)
        (fun _ _ _ _ _ => pe_callB (cr_sum rfl) (by rfl) L.sum (by decide +kernel) (pa_cons (pe_lc (own := [("at", 4), ("mask", 5)]) (g := gTup K 2 (gCons (gName 4) (gCons (gName 5) gNil))) (tt := ttMet K) (te := tOp (rI CPow fun i j => .int (i * 2 ^ j.toNat)) (tC (.int 1)) (tVar 4)) (by rfl) scLMet.nd
          (pi_enum (by rfl) le (pa_cons (pv 1) pa_nil)) (blkOk_by (N := nLMet) (sc := scLMIn) (by decide +kernel)) (fun _ _ _ _ _ => pg_tup (n := 2) (by rfl) (pgs_cons (pg_name (i := 4) scLMet.nd rfl (Or.inl rfl)) (pgs_cons (pg_name (i := 5) scLMet.nd rfl (Or.inl rfl)) pgs_nil)))
          (fun _ _ _ _ _ => pts_one (pt_truth (pe_op op_and (pv 5) (pv 3)) (fun _ => rfl))) (fun _ _ _ _ _ => pe_op op_shl pe_int (pv 4))) pa_nil)))), ?_⟩
    refine ⟨_, rfl, b, od, dN xs (bitV xs), rfl, hb, fun X nX => ?_⟩
    refine loop_it (walk_items (d := b) (o := od) (kvs := dN xs (bitV xs))) (fun i H' => H' X = some (.dK (dN (xs.take i) (metV xs zs))) ∧ Same H H')
      ⟨upd_same, sn nX⟩ (fun i H' _ h => h.2 _ _ hb) ?_ ?_
    · rintro i x H6 H7 hi ⟨q1, q2⟩ ⟨T, u, v, rfl, nT, rfl, eu, ev⟩
      dsimp only at eu ev
      have li : i < xs.length := by rw [dN_len] at hi; exact hi
      have ez : xs[i]? = some xs[i] := List.getElem?_eq_getElem li
      unfold dN at eu ev
      rw [List.getElem?_map] at eu ev
      rw [ez] at eu ev
      obtain rfl : V.str xs[i] = u := Option.some.inj eu
      obtain rfl : bitV xs xs[i] = v := Option.some.inj ev
      have nx : xs[i] ∉ xs.take i := fun q => by
        obtain ⟨j, hj, e⟩ := List.mem_iff_getElem.mp q
        rw [List.length_take] at hj
        rw [List.getElem_take] at e
        exact List.pairwise_iff_getElem.mp ndx j i (by omega) li (by omega) e
      generalize hz : xs[i] = z at ez nx ⊢
      have sT := sn nT (o := .tup [.str z, bitV xs z])
      have hT : upd H6 T (.tup [.str z, bitV xs z]) T = some (.tup [.str z, bitV xs z]) := upd_same
      generalize upd H6 T (.tup [.str z, bitV xs z]) = H7 at sT hT ⊢
      have hm7 := sT _ _ (q2 _ _ hm)
      refine ⟨T, _, rfl, SqT.of hT, rfl, _, _, rfl, _, _, rfl, rfl, rfl, _, rfl, _, rfl, m, mskV zs, rfl, SqL.of hm7, fun Y nY => ?_⟩
      have nYX : Y ≠ X := Ne.symm (ne_of_none (sT _ _ q1) nY)
      refine lc_it (walk_enum (K := K) (a := m) (xs := mskV zs)) (fun j H' => ∃ ns : List Int, H' Y = some (.lst (ns.map V.int)) ∧ ns.sum = ((metM (zs.take j) (xs.idxOf z) : Nat) : Int) ∧ ns.length ≤ j ∧ Same H7 H')
        ⟨[], upd_same, rfl, Nat.le_refl _, sn nY⟩ (fun j H' _ h => by obtain ⟨_, _, _, _, h⟩ := h; exact SqL.of (h _ _ hm7)) ?_ ?_
      · rintro j y H8 H9 hj ⟨ns, p1, p2, p3, p4⟩ ⟨T2, u2, v2, rfl, nT2, rfl, eu2, ev2⟩
        obtain rfl := Option.some.inj eu2
        dsimp only at ev2
        unfold mskV at ev2 hj
        rw [List.length_map] at hj
        have ej : zs[j]? = some zs[j] := List.getElem?_eq_getElem hj
        rw [List.getElem?_map, ej] at ev2
        obtain rfl := Option.some.inj ev2
        generalize zs[j] = y at ej ⊢
        have sT2 := sn nT2 (o := .tup [.int (j : Nat), .int ((y : Nat) : Int)])
        have hT2 : upd H8 T2 (.tup [.int (j : Nat), .int ((y : Nat) : Int)]) T2 = some (.tup [.int (j : Nat), .int ((y : Nat) : Int)]) := upd_same
        generalize upd H8 T2 (.tup [.int (j : Nat), .int ((y : Nat) : Int)]) = H9 at sT2 hT2 ⊢
        have tk : zs.take (j + 1) = zs.take j ++ [y] := by
          rw [List.take_succ, ej]
          rfl
        have ltk : (zs.take j).length = j := by rw [List.length_take]; omega
        refine ⟨T2, _, rfl, SqT.of hT2, rfl, _, _, rfl, _, _, rfl, rfl, rfl, _, rfl, _, rfl, _, _, rfl, rfl, y.testBit (xs.idxOf z), bit_ne2.symm, ?_⟩
        cases e : y.testBit (xs.idxOf z) with
        | false =>
          refine iteF ⟨ns, sT2 _ _ p1, ?_, by omega, p4.trans sT2⟩
          rw [p2, tk, metM_snoc, e, if_neg Bool.false_ne_true, Nat.add_zero]
        | true =>
          refine iteT ⟨_, rfl, _, _, rfl, rfl, ⟨by omega, by omega, by decide⟩, _, sT2 _ _ p1, small1000 (by rw [List.length_map]; omega), ns ++ [2 ^ j], ?_, ?_, by rw [List.length_append]; exact Nat.succ_le_succ p3, fun c o e => ?_⟩
          · rw [upd_same, List.map_append]
            refine congrArg (fun z => some (HO.lst (ns.map V.int ++ [z]))) ?_
            show V.int ((1 : Int) * 2 ^ ((j : Nat) : Int).toNat) = V.int (2 ^ j)
            rw [Int.one_mul, Int.toNat_natCast]
          · rw [List.sum_append, p2, tk, metM_snoc, e, if_pos rfl, ltk]
            show _ + (2 ^ j + 0) = _
            rw [Int.natCast_add, Int.natCast_pow, Int.add_zero]
            rfl
          · rw [upd_ne (ne_of_none e nY)]
            exact sT2 _ _ (p4 _ _ e)
      · rintro H8 ⟨ns, p1, p2, p3, p4⟩
        unfold mskV at p2
        rw [List.length_map, List.take_length] at p2
        refine ⟨Y, ns, rfl, SqL.of p1, _, .inr z, rfl, p4 _ _ (sT _ _ q1), small1000 (by rw [dN_len, List.length_take]; omega), ?_, fun c o e => ?_⟩
        · rw [upd_same, p2]
          refine congrArg (fun z => some (HO.dK z)) ?_
          show putK (dN (xs.take i) (metV xs zs)) (.inr z) (metV xs zs z) = _
          rw [dN_put nx, List.take_succ, ez]
          rfl
        · rw [upd_ne (ne_of_none e nX)]
          exact p4 _ _ (sT _ _ (q2 _ _ e))
    · rintro H6 ⟨q1, q2⟩
      rw [dN_len, List.take_length] at q1
      exact k X _ q2 nX q1
end
end G14

set_option maxHeartbeats 8000000
namespace G14
open PySem PySem.Spec PyProof.Rows L2 G1
/-- the lots met by the names outside a mask -/
def outKeys (xs : List Str) (ws : List Nat) (mask : Nat) : List Nat := (xs.filter fun y => !mask.testBit (xs.idxOf y)).map fun y => metM ws (xs.idxOf y)
/-- the least number of these that meet every lot -/
def LeastK (ks : List Nat) (many n : Nat) : Prop := (∃ T : List Nat, T.length = n ∧ (∀ c ∈ T, c ∈ ks) ∧ orM T = everyM many) ∧ ∀ T : List Nat, (∀ c ∈ T, c ∈ ks) → orM T = everyM many → n ≤ T.length
theorem least_k {ch : List (Nat × Str)} {ks : List Nat} {many n : Nat} (e : ∀ c, c ∈ ch.map (·.1) ↔ c ∈ ks) (h : LeastMeet ch many n) : LeastK ks many n := by
  obtain ⟨⟨T, h1, h2, h3⟩, h4⟩ := h
  exact ⟨⟨T, h1, fun c hc => (e c).mp (h2 c hc), h3⟩, fun T hT => h4 T fun c hc => (e c).mpr (hT c hc)⟩
theorem put_ch {ch : List (Nat × Str)} {c : Nat} {y : Str} : ∃ ch' : List (Nat × Str), putK (chV ch) (.inl (c : Int)) (.str y) = chV ch' ∧ (∀ d, d ∈ ch'.map (·.1) ↔ d ∈ ch.map (·.1) ∨ d = c) ∧ ch'.length ≤ ch.length + 1 := by
  unfold putK
  split
  · rename_i a
    refine ⟨ch.map fun d => if d.1 = c then (d.1, y) else d, ?_, fun d => ?_, by rw [List.length_map]; omega⟩
    · unfold chV
      rw [List.map_map, List.map_map]
      refine List.map_congr_left fun d _ => ?_
      show (if (Sum.inl (d.1 : Int) : Key) = .inl (c : Int) then ((Sum.inl (d.1 : Int) : Key), V.str y) else ((Sum.inl (d.1 : Int) : Key), V.str d.2)) = ((Sum.inl ((if d.1 = c then (d.1, y) else d).1 : Int) : Key), V.str (if d.1 = c then (d.1, y) else d).2)
      by_cases e : d.1 = c
      · rw [if_pos (by rw [e]), if_pos e]
      · rw [if_neg (fun z => e (by have := Sum.inl.inj z; omega)), if_neg e]
    · have e : (ch.map fun d => if d.1 = c then (d.1, y) else d).map (·.1) = ch.map (·.1) := by
        rw [List.map_map]
        refine List.map_congr_left fun d _ => ?_
        show (if d.1 = c then (d.1, y) else d).1 = d.1
        split <;> rfl
      rw [e]
      refine ⟨.inl, fun h => h.elim id fun h => ?_⟩
      obtain ⟨kv, hk, q⟩ := List.any_eq_true.mp a
      unfold chV at hk
      obtain ⟨d2, h2, rfl⟩ := List.mem_map.mp hk
      have q2 := Sum.inl.inj (of_decide_eq_true q)
      exact List.mem_map.mpr ⟨d2, h2, by rw [h]; omega⟩
  · refine ⟨ch ++ [(c, y)], ?_, fun d => ?_, by rw [List.length_append]; exact Nat.le_refl _⟩
    · unfold chV
      rw [List.map_append]
      rfl
    · rw [List.map_append, List.mem_append]
      exact ⟨fun h => h.imp id fun h => List.mem_singleton.mp h, fun h => h.imp id fun h => List.mem_singleton.mpr h⟩
/-- a size: a name, one of its least lots in the one, and the shortest meeting of its least lots in the other -/
def SizeAt (xs : List Str) (rs ts : List (List Str)) (x : Str) (n : Nat) : Prop := ∃ zs ws : List Nat, LeastOf xs rs x zs ∧ LeastOf xs ts x ws ∧ ∃ mask ∈ zs, ∃ k, LeastK (outKeys xs ws mask) ws.length k ∧ n = k + 1
def SizeOf (xs : List Str) (rs ts : List (List Str)) (n : Nat) : Prop := ∃ x ∈ xs, SizeAt xs rs ts x n
theorem size_at {xs : List Str} {rs ts : List (List Str)} {x : Str} {zs ws : List Nat} (lz : LeastOf xs rs x zs) (lw : LeastOf xs ts x ws) {n : Nat} : SizeAt xs rs ts x n ↔ ∃ mask ∈ zs, ∃ k, LeastK (outKeys xs ws mask) ws.length k ∧ n = k + 1 := by
  constructor
  · rintro ⟨zs2, ws2, h1, h2, h⟩
    rw [least_uniq lz h1, least_uniq lw h2]
    exact h
  · exact fun h => ⟨zs, ws, lz, lw, h⟩
theorem leastOf_len {xs : List Str} {rs : List (List Str)} {x : Str} {zs : List Nat} (h : LeastOf xs rs x zs) : zs.length ≤ rs.length := by
  obtain ⟨ys, _, _, _, ly, rfl⟩ := h
  have h1 := leastM_len ys []
  rw [List.length_nil] at h1
  show (ys.foldl leastS []).length ≤ _
  omega
theorem dN_getF {H : Hp} {d : Addr} {od : Obj} {xs : List Str} {f : Str → V} {x : Str} (e : H d = some (.frz od (.dK (dN xs f)))) (h : x ∈ xs) : DGet H d (.str x) (some (f x)) := .inl ⟨_, .inr x, .inr ⟨_, e⟩, rfl, (dN_val h).symm⟩
theorem least_no {ch : List (Nat × Str)} {ks : List Nat} {many : Nat} (e : ∀ c, c ∈ ch.map (·.1) ↔ c ∈ ks) (h : ∀ T : List Nat, (∀ c ∈ T, c ∈ ch.map (·.1)) → orM T ≠ everyM many) {n : Nat} (l : LeastK ks many n) : False := by
  obtain ⟨⟨T, _, h2, h3⟩, _⟩ := l
  exact h T (fun c hc => (e c).mpr (h2 c hc)) h3
theorem least_one {ks : List Nat} {many n m : Nat} (h1 : LeastK ks many n) (h2 : LeastK ks many m) : n = m := by
  obtain ⟨⟨T, a1, a2, a3⟩, a4⟩ := h1
  obtain ⟨⟨U, b1, b2, b3⟩, b4⟩ := h2
  have := a4 U b2 b3
  have := b4 T a2 a3
  omega
def spSizes (C : Addr) : Sp := fun vs H Q _ => ∃ (a b : Addr) (xs : List Str) (rs ts : List (List Str)), vs = [.ref a, .ref b] ∧ PanF H C a xs rs ∧ PanF H C b xs ts ∧ Rw xs rs ∧ Rw xs ts ∧ ts.length ≤ 20 ∧
  ∀ (D : Addr) (ns : List Nat) (H' : Hp), Same H H' → H D = none → H' D = some (.lst (mskV ns)) → (∀ n, n ∈ ns ↔ SizeOf xs rs ts n) → ns.length ≤ 3000 → (∀ x ∈ xs, (∃ zs, LeastOf xs rs x zs) ∧ ∃ ws, LeastOf xs ts x ws) → Q (.ref D) H'
section
variable {P : Program} {w : World} {K : PySem.W.Frag} {mg : Str → Option Value} {base : Heap} {C : Addr}
abbrev sSizes : Stmt := top 58
abbrev nSizes : List Str := ["one", "other", "bits", "ours", "theirs", "sizes", "entry", "met", "mask", "outside", "name", "chosen"]
theorem scSizes : FnScope nSizes ["one", "other"] (defScope sSizes) := ⟨rfl, rfl, rfl, by decide +kernel, rfl, by decide +kernel, by decide +kernel⟩
theorem ok_sizes {f : Addr} {fd : FuncData} (F : FnP K "sizes_beyond" sSizes f fd) (L : Lib K mg) (N : PanP P w K mg base C) (DB : Df P w K mg base 1 "bits_of" sBits ["entries"] spBits) (DL : Df P w K mg base 4 "least_ahead" sLA ["panel"] (spLA C)) (DM : Df P w K mg base 1 "lots_met" sLMet ["bits", "masks"] spLMetF)
    (DS : Df P w K mg base 2 "shortest_meeting" sSMeet ["choices", "many"] spSMeet) : FnOk P w K mg base CX0 5 f fd ["one", "other"] (spSizes C) := by
  refine okN F scSizes (fun vs H Q E h => ?_) (fun cdv A outer s H vs Q E hr h => ?_)
  · obtain ⟨_, _, _, _, _, rfl, _⟩ := h
    rfl
  · obtain ⟨a, b, xs, rs, ts, rfl, pa, pb, ga, gb, l20, k⟩ := h
    have hun := hr.un
    have nd := scSizes.nd
    have hu1 : (A.deeper (envOfC "sizes_beyond" (defScope sSizes) s.heap.objs.size f cdv)).units + 1 < cLine := by omega
    have r1 : Room 1 (A.deeper (envOfC "sizes_beyond" (defScope sSizes) s.heap.objs.size f cdv)) := hr.mono (by decide)
    have r2 : Room 2 (A.deeper (envOfC "sizes_beyond" (defScope sSizes) s.heap.objs.size f cdv)) := hr.mono (by decide)
    obtain ⟨dx, gs, fr1, fr2, fr3, fr4⟩ := id pa.fre
    refine' ⟨_, pss_cons ?b0 (pss_cons ?b1 (pss_cons ?b2 (pss_cons (ps_lock (ps_for PassesOwn.never rfl (pi_keys (pv 2)) (pg_name (i := 6) nd rfl (Or.inl rfl)) (pss_cons ?c0 (pss_one (ps_for PassesOwn.never rfl (pi_list (pe_dget hu1 (pv 3) (pv 6) (fun _ _ => rfl))) (pg_name (i := 8) nd rfl (Or.inr rfl)) (pss_cons ?d0 (pss_cons ?d1 (pss_one ?d2)))))))) (pss_one (ps_ret (pv 5)))))), ?_⟩
    case b0 => exact (ps_set (i := 2) nd rfl (Or.inr rfl) (pe_df DB r1 (by rfl) (pa_cons (pe_mt (pv 0) N.cls N.en r1) pa_nil)))
    case b1 => exact (ps_par (i := 3) (j := 4) (by rfl) nd rfl rfl (by decide) rfl rfl (pa_cons (pe_df DL hr (by rfl) (pa_cons (pv 0) pa_nil)) (pa_cons (pe_df DL hr (by rfl) (pa_cons (pv 1) pa_nil)) pa_nil)) (by rfl))
    case b2 => exact (ps_set (i := 5) nd rfl (Or.inl rfl) (pe_lst pa_nil))
    case c0 => exact (ps_set (i := 7) nd rfl (Or.inr rfl) (pe_df DM r1 (by rfl) (pa_cons (pv 2) (pa_cons (pe_dget hu1 (pv 4) (pv 6) (fun _ _ => rfl)) pa_nil))))
    case d0 => exact (ps_setDc (i := 9) (own := [("name", 10)]) (g := gName 10) (tt := tNot (fun σ H Q => tOp (rI0 fun i j => .int (Builtin.bitAnd i j)) (tDGet (tVar 2) (tVar 10)) (tVar 8) σ H fun x H' => ∃ k, TruV K x H' k ∧ Q k H')) (tk := tDGet (tVar 7) (tVar 10)) (tv := tVar 10) (by rfl) nd rfl rfl (sw_trueD rfl rfl rfl (by decide +kernel)) (pi_keys (pv 2))
        (blkOk_by (N := nSizes) (sc := defScope sSizes) (by decide +kernel)) (fun _ _ _ _ _ => pg_name (i := 10) scSizes.nd rfl (Or.inl rfl)) (fun _ _ _ _ _ => pts_one (pt_not (pt_truth (pe_op op_and (pe_dget hu1 (pv 2) (pv 10) (fun _ _ => rfl)) (pv 8)) (fun _ => rfl)))) (fun _ _ _ _ _ => pe_dget hu1 (pv 7) (pv 10) (fun _ _ => rfl)) (fun _ _ _ _ _ => pv 10))
    case d1 => exact (ps_set (i := 11) nd rfl (Or.inl rfl) (pe_df DS r2 (by rfl) (pa_cons (pv 9) (pa_cons (pe_callB call_len_seq (by rfl) L.len PySem.boot_len (pa_cons (pe_dget hu1 (pv 4) (pv 6) (fun _ _ => rfl)) pa_nil)) pa_nil))))
    case d2 => exact (ps_if (pt_cmpR op_notN (pv 11) pe_non (nomark _)) (pss_one (ps_expr (pe_bm PySem.F.plainAttrs_list PySem.F.slot_list_append PySem.F.type_list_append mt_append (pv 5) (pa_cons (pe_op op_add (pe_callB call_len_seq (by rfl) L.len PySem.boot_len (pa_cons (pv 11) pa_nil)) pe_int) pa_nil)))) pss_nil)
    refine ⟨_, rfl, a, dx, gs, rfl, fr1, fr2, a, xs, rs, rfl, pa.at_, fun E1 H1 s1 nE1 hE1 => ⟨E1, xs, rfl, hE1, ga.nd, ga.le, fun B H2 s2 nB hB => ?_⟩⟩
    have s12 := s1.trans s2
    refine ⟨_, rfl, a, xs, rs, rfl, pa.same s12, ga, fun F1 H3 s3 nF1 fam1 => ⟨_, rfl, b, xs, ts, rfl, pb.same (s12.trans s3), gb, fun F2 H4 s4 nF2 fam2 => ⟨_, _, rfl, ?_⟩⟩⟩
    obtain ⟨g1, hF1, hg1⟩ := fam1.same s4
    obtain ⟨g2, hF2, hg2⟩ := fam2
    have hB4 := (s3.trans s4) _ _ hB
    have s04 := s12.trans (s3.trans s4)
    clear fr1 fr2 fr3 fr4 hE1 nE1 nB nF1 nF2 fam1 hB
    refine ⟨Nat.zero_le _, fun D nD => ?_⟩
    have sD := sn nD (o := .lst [])
    have nBD : B ≠ D := ne_of_none hB4 nD
    have hD5 : upd H4 D (.lst []) D = some (.lst []) := upd_same
    generalize upd H4 D (.lst []) = H5 at sD hD5 ⊢
    refine ⟨B, .dK (dN xs (bitV xs)), sD _ _ hB4, trivial, fun od => ?_⟩
    have fz : upd H5 B (.frz od (.dK (dN xs (bitV xs)))) B = some (.frz od (.dK (dN xs (bitV xs)))) := upd_same
    have keep : ∀ (c : Addr) (o : HO), c ≠ B → H4 c = some o → upd H5 B (.frz od (.dK (dN xs (bitV xs)))) c = some o := fun c o n e => by rw [upd_ne n]; exact sD _ _ e
    have hD6 : upd H5 B (.frz od (.dK (dN xs (bitV xs)))) D = some (.lst []) := by rw [upd_ne (Ne.symm nBD)]; exact hD5
    generalize upd H5 B (.frz od (.dK (dN xs (bitV xs)))) = H6 at fz keep hD6 ⊢
    have l40 := ga.le
    have l60 := ga.l60
    refine ⟨_, rfl, B, od, rfl, .inl ⟨dN xs (bitV xs), fz, for_it (walk_keys (d := B) (o := od) (kvs := dN xs (bitV xs))) (fun i σ H' => ∃ (o6 o7 o8 o9 o10 o11 : Option V) (ns : List Nat), σ = [some (.ref a), some (.ref b), some (.ref B), some (.ref F1), some (.ref F2), some (.ref D), o6, o7, o8, o9, o10, o11] ∧
        H' B = some (.frz od (.dK (dN xs (bitV xs)))) ∧ (∀ (c : Addr) (o : HO), c ≠ B → H4 c = some o → H' c = some o) ∧ H' D = some (.lst (mskV ns)) ∧ (∀ n, n ∈ ns ↔ ∃ x ∈ xs.take i, SizeAt xs rs ts x n) ∧ ns.length ≤ 60 * i)
      ⟨none, none, none, none, none, none, [], rfl, fz, keep, hD6, (fun n => ⟨fun h => (nomatch h), fun ⟨_, h, _⟩ => (nomatch h)⟩), Nat.zero_le _⟩ (fun i σ H' _ h => by obtain ⟨_, _, _, _, _, _, _, _, h, _⟩ := h; exact h) ?_ ?_⟩⟩
    · rintro i y0 σ H8 H7 hi ⟨o6, o7, o8, o9, o10, o11, ns, rfl, f7, k7, hD7, mem7, len7⟩ ⟨rfl, kk, v, ekv, rfl⟩
      have li : i < xs.length := by rw [dN_len] at hi; exact hi
      have ex : xs[i]? = some xs[i] := List.getElem?_eq_getElem li
      unfold dN at ekv
      rw [List.getElem?_map, ex] at ekv
      generalize xs[i] = x at ex ekv
      cases ekv
      have mx := List.mem_of_getElem? ex
      obtain ⟨zs, lz, hz⟩ := hg1 x mx
      obtain ⟨ws, lw, hw⟩ := hg2 x mx
      have noB : ∀ {c : Addr} {vs : List V}, H4 c = some (.lst vs) → c ≠ B := fun h e => by
        rw [e, hB4] at h
        cases h
      have noF : ∀ {c : Addr} {kvs : List (Key × V)}, H4 c = some (.dK kvs) → H7 c = some (.dK kvs) → c ≠ B := fun _ h e => by
        rw [e, f7] at h
        cases h
      have lz60 := leastOf_len lz
      have lw20 := leastOf_len lw
      have nF1B : F1 ≠ B := fun e => by
        have q := hF1
        rw [e, hB4] at q
        have q2 := HO.dK.inj (Option.some.inj q)
        unfold dN at q2
        have q3 := congrArg (fun l => l[i]?) q2
        dsimp only at q3
        rw [List.getElem?_map, List.getElem?_map, ex] at q3
        have q4 := (Prod.mk.inj (Option.some.inj q3)).2
        unfold bitV at q4
        cases q4
      have nF2B : F2 ≠ B := fun e => by
        have q := hF2
        rw [e, hB4] at q
        have q2 := HO.dK.inj (Option.some.inj q)
        unfold dN at q2
        have q3 := congrArg (fun l => l[i]?) q2
        dsimp only at q3
        rw [List.getElem?_map, List.getElem?_map, ex] at q3
        have q4 := (Prod.mk.inj (Option.some.inj q3)).2
        unfold bitV at q4
        cases q4
      refine ⟨_, rfl, _, rfl, _, rfl, F2, _, rfl, dN_get (k7 _ _ nF2B hF2) mx, ?_⟩
      refine ⟨B, g2 x, od, xs, ws, rfl, f7, k7 _ _ (noB hw) hw, ga.nd, ga.le, by omega, fun M H9 s9 nM hM => ?_⟩
      have nMD : M ≠ D := Ne.symm (ne_of_none hD7 nM)
      have k9 : ∀ (c : Addr) (o : HO), c ≠ B → H4 c = some o → H9 c = some o := fun c o n e => s9 _ _ (k7 c o n e)
      refine ⟨_, rfl, _, rfl, F1, _, rfl, dN_get (k9 _ _ nF1B hF1) mx, g1 x, rfl, ⟨_, SqL.of (k9 _ _ (noB hz) hz)⟩, for_list (K := K) (a := g1 x) (xs := mskV zs) (fun j σ H' => ∃ (o8 o9 o10 o11 : Option V) (ns : List Nat), σ = [some (.ref a), some (.ref b), some (.ref B), some (.ref F1), some (.ref F2), some (.ref D), some (.str x), some (.ref M), o8, o9, o10, o11] ∧
          H' B = some (.frz od (.dK (dN xs (bitV xs)))) ∧ (∀ (c : Addr) (o : HO), c ≠ B → H4 c = some o → H' c = some o) ∧ H' M = some (.dK (dN xs (metV xs ws))) ∧ H' D = some (.lst (mskV ns)) ∧
          (∀ n, n ∈ ns ↔ (∃ x ∈ xs.take i, SizeAt xs rs ts x n) ∨ ∃ mask ∈ zs.take j, ∃ k, LeastK (outKeys xs ws mask) ws.length k ∧ n = k + 1) ∧ ns.length ≤ 60 * i + j)
        ⟨_, _, _, _, ns, rfl, s9 _ _ f7, k9, hM, s9 _ _ hD7, (fun n => (mem7 n).trans ⟨.inl, fun h => h.elim id fun ⟨_, h, _⟩ => (nomatch h)⟩), len7⟩ (fun j σ H' _ h => by obtain ⟨_, _, _, _, _, _, _, h, _⟩ := h; exact SqL.of (h _ _ (noB hz) hz)) ?_ ?_⟩
      · rintro j y1 σ H10 hj ⟨o8, o9, o10, o11, ns, rfl, f10, k10, hM10, hD10, mem10, len10⟩
        unfold mskV at hj
        rw [List.getElem?_map] at hj
        obtain ⟨mask, hmask, rfl⟩ := Option.map_eq_some_iff.mp hj
        have lj : j < zs.length := (List.getElem?_eq_some_iff.mp hmask).1
        refine ⟨_, rfl, B, od, rfl, .inl ⟨dN xs (bitV xs), f10, fun X nX => loop_it (walk_keys (d := B) (o := od) (kvs := dN xs (bitV xs))) (fun q H' => ∃ ch : List (Nat × Str), H' X = some (.dK (chV ch)) ∧ (∀ c, c ∈ ch.map (·.1) ↔ ∃ y ∈ xs.take q, mask.testBit (xs.idxOf y) = false ∧ c = metM ws (xs.idxOf y)) ∧ ch.length ≤ q ∧ Same H10 H')
          ⟨[], upd_same, (fun c => ⟨fun h => (nomatch h), fun ⟨_, h, _⟩ => (nomatch h)⟩), Nat.le_refl _, sn nX⟩ (fun q H' _ h => by obtain ⟨_, _, _, _, h⟩ := h; exact h _ _ f10) ?_ ?_⟩⟩
        · rintro q y2 H12 H11 hq ⟨ch, c1, c2, c3, c4⟩ ⟨rfl, kk, v, ekv, rfl⟩
          have lq : q < xs.length := by rw [dN_len] at hq; exact hq
          have ey : xs[q]? = some xs[q] := List.getElem?_eq_getElem lq
          unfold dN at ekv
          rw [List.getElem?_map, ey] at ekv
          generalize xs[q] = y at ey ekv
          cases ekv
          have my := List.mem_of_getElem? ey
          have tk : xs.take (q + 1) = xs.take q ++ [y] := by
            rw [List.take_succ, ey]
            rfl
          refine ⟨rfl, _, rfl, _, rfl, B, _, rfl, dN_getF (c4 _ _ f10) my, _, rfl, _, _, rfl, rfl, mask.testBit (xs.idxOf y), bit_ne.symm, ?_⟩
          cases e : mask.testBit (xs.idxOf y) with
          | true =>
            refine iteF ⟨ch, c1, fun c => (c2 c).trans ?_, by omega, c4⟩
            rw [tk]
            constructor
            · rintro ⟨z, h1, h2, h3⟩
              exact ⟨z, List.mem_append.mpr (.inl h1), h2, h3⟩
            · rintro ⟨z, h1, h2, h3⟩
              rcases List.mem_append.mp h1 with h1 | h1
              · exact ⟨z, h1, h2, h3⟩
              · rw [List.mem_singleton.mp h1, e] at h2
                cases h2
          | false =>
            obtain ⟨ch', d1, d2, d3⟩ := put_ch (ch := ch) (c := metM ws (xs.idxOf y)) (y := y)
            refine iteT ⟨_, rfl, _, rfl, M, _, rfl, dN_get (c4 _ _ hM10) my, _, rfl, _, .inl ((metM ws (xs.idxOf y) : Nat) : Int), rfl, c1, small1000 (by unfold chV; rw [List.length_map]; omega), ch', by rw [upd_same]; exact congrArg (fun z => some (HO.dK z)) d1, fun c => ?_, by omega, fun b o z => ?_⟩
            · rw [d2, c2, tk]
              constructor
              · rintro (⟨z, h1, h2, h3⟩ | h)
                · exact ⟨z, List.mem_append.mpr (.inl h1), h2, h3⟩
                · exact ⟨y, List.mem_append.mpr (.inr (.head _)), e, h⟩
              · rintro ⟨z, h1, h2, h3⟩
                rcases List.mem_append.mp h1 with h1 | h1
                · exact .inl ⟨z, h1, h2, h3⟩
                · rw [List.mem_singleton.mp h1] at h3
                  exact .inr h3
            · rw [upd_ne (ne_of_none z nX)]
              exact c4 _ _ z
        · rintro H11 ⟨ch, c1, c2, c3, c4⟩
          rw [dN_len] at c2 c3
          rw [List.take_length] at c2
          have ck : ∀ c, c ∈ ch.map (·.1) ↔ c ∈ outKeys xs ws mask := fun c => by
            rw [c2]
            unfold outKeys
            rw [List.mem_map]
            constructor
            · rintro ⟨z, h1, h2, h3⟩
              exact ⟨z, List.mem_filter.mpr ⟨h1, by rw [h2]; rfl⟩, h3.symm⟩
            · rintro ⟨z, h1, h3⟩
              obtain ⟨h1, h2⟩ := List.mem_filter.mp h1
              exact ⟨z, h1, by revert h2; cases mask.testBit (xs.idxOf z) <;> exact fun h => (by first | rfl | cases h), h3.symm⟩
          have hw11 := c4 _ _ (k10 _ _ (noB hw) hw)
          refine ⟨_, rfl, _, rfl, _, rfl, F2, _, rfl, dN_get (c4 _ _ (k10 _ _ nF2B hF2)) mx, g2 x, mskV ws, rfl, .inl (SqL.of hw11), ?_⟩
          rw [show (mskV ws).length = ws.length from List.length_map _]
          have tk : zs.take (j + 1) = zs.take j ++ [mask] := by
            rw [List.take_succ, hmask]
            rfl
          refine ⟨X, ws.length, ch, rfl, c1, by omega, by omega, fun c hc => ?_, fun H12 s12 no => ?_, fun L0 l H12 s12 hL ll lm => ?_⟩
          · obtain ⟨z, _, _, h⟩ := (c2 c).mp hc
            rw [h]
            exact metM_lt
          · refine ⟨_, rfl, rfl, _, rfl, ?_⟩
            rw [decide_eq_true rfl]
            refine iteF ⟨_, _, _, _, ns, rfl, s12 _ _ (c4 _ _ f10), fun c o n e => s12 _ _ (c4 _ _ (k10 c o n e)), s12 _ _ (c4 _ _ hM10), s12 _ _ (c4 _ _ hD10), fun n => (mem10 n).trans ?_, by omega⟩
            rw [tk]
            constructor
            · rintro (h | ⟨mk, h1, h2⟩)
              · exact .inl h
              · exact .inr ⟨mk, List.mem_append.mpr (.inl h1), h2⟩
            · rintro (h | ⟨mk, h1, k, h2, h3⟩)
              · exact .inl h
              · rcases List.mem_append.mp h1 with h1 | h1
                · exact .inr ⟨mk, h1, k, h2, h3⟩
                · rw [List.mem_singleton.mp h1] at h2
                  exact (least_no ck no h2).elim
          · refine ⟨_, rfl, rfl, _, rfl, ?_⟩
            rw [decide_eq_false (fun e => by cases e)]
            have hD12 := s12 _ _ (c4 _ _ hD10)
            refine iteT ⟨_, rfl, .inl ⟨rfl, _, SqL.of hD12⟩, _, rfl, L0, l.map V.str, rfl, .inl (SqL.of hL), _, _, rfl, rfl, D, _, _, rfl, rfl, hD12, Nat.lt_of_le_of_lt (m := 3000) (by unfold mskV; rw [List.length_map]; omega) (show 3000 < sizeLine by decide), ?_⟩
            have lk := least_k ck lm
            refine ⟨_, _, _, _, ns ++ [l.length + 1], rfl, by rw [upd_ne nBD]; exact s12 _ _ (c4 _ _ f10), fun c o n e => by rw [upd_ne (ne_of_none e nD)]; exact s12 _ _ (c4 _ _ (k10 c o n e)), by rw [upd_ne nMD]; exact s12 _ _ (c4 _ _ hM10), ?_, fun n => ?_, by rw [List.length_append]; exact Nat.succ_le_succ len10⟩
            · rw [upd_same]
              unfold mskV
              rw [List.map_append, List.length_map]
              rfl
            · rw [List.mem_append, mem10, tk]
              constructor
              · rintro ((h | ⟨mk, h1, h2⟩) | h)
                · exact .inl h
                · exact .inr ⟨mk, List.mem_append.mpr (.inl h1), h2⟩
                · exact .inr ⟨mask, List.mem_append.mpr (.inr (.head _)), l.length, lk, List.mem_singleton.mp h⟩
              · rintro (h | ⟨mk, h1, k, h2, h3⟩)
                · exact .inl (.inl h)
                · rcases List.mem_append.mp h1 with h1 | h1
                  · exact .inl (.inr ⟨mk, h1, k, h2, h3⟩)
                  · rw [List.mem_singleton.mp h1] at h2
                    rw [h3, least_one h2 lk]
                    exact .inr (.head _)
      · rintro σ H10 ⟨o8, o9, o10, o11, ns, rfl, f10, k10, hM10, hD10, mem10, len10⟩
        unfold mskV at mem10 len10
        rw [List.length_map] at mem10 len10
        rw [List.take_length] at mem10
        refine ⟨_, _, _, _, _, _, ns, rfl, f10, k10, hD10, fun n => (mem10 n).trans ?_, by omega⟩
        rw [← size_at lz lw, List.take_succ, ex]
        constructor
        · rintro (⟨z, h1, h2⟩ | h)
          · exact ⟨z, List.mem_append.mpr (.inl h1), h2⟩
          · exact ⟨x, List.mem_append.mpr (.inr (.head _)), h⟩
        · rintro ⟨z, h1, h2⟩
          rcases List.mem_append.mp h1 with h1 | h1
          · exact .inl ⟨z, h1, h2⟩
          · obtain rfl : z = x := List.mem_singleton.mp h1
            exact .inr h2
    · rintro σ H7 ⟨o6, o7, o8, o9, o10, o11, ns, rfl, f7, k7, hD7, mem7, len7⟩
      rw [dN_len] at mem7 len7
      rw [List.take_length] at mem7
      refine ⟨f7, _, rfl, k D ns _ (fun c o e => ?_) (s04.free nD) (by rw [upd_ne (Ne.symm nBD)]; exact hD7) mem7 (by omega) fun x hx => ⟨let ⟨zs, h, _⟩ := hg1 x hx; ⟨zs, h⟩, let ⟨ws, h, _⟩ := hg2 x hx; ⟨ws, h⟩⟩⟩
      have e4 := s04 _ _ e
      by_cases qc : c = B
      · rw [qc, upd_same]
        rw [qc, hB4] at e4
        exact e4
      · rw [upd_ne qc]
        exact k7 c o qc e4
end
end G14

set_option maxHeartbeats 4000000
/-! min(xs, default=d) of a list of ints. -/
namespace G1
open PySem PySem.Spec PyProof.Rows L2 PySem.W
def rMinDef (K : PySem.W.Frag) : List V → List V → Hp → VK → Prop := fun vs zs H Q => ∃ (a : Addr) (ns : List Int) (d : V), vs = [V.ref a] ∧ zs = [d] ∧ SqL K H a (ns.map V.int) ∧ (ns = [] → Q d H) ∧ ∀ m, m ∈ ns → (∀ y, y ∈ ns → m ≤ y) → Q (.int m) H
theorem fold_min : ∀ (ns : List Int) (n : Int), (ns.foldl min n ∈ n :: ns) ∧ ∀ y ∈ n :: ns, ns.foldl min n ≤ y
  | [], n => ⟨.head _, fun y hy => by rw [List.mem_singleton.mp hy]; exact Int.le_refl _⟩
  | k :: ns, n => by
    obtain ⟨h1, h2⟩ := fold_min ns (min n k)
    rw [List.foldl_cons]
    have hm := h2 (min n k) (.head _)
    refine ⟨?_, fun y hy => ?_⟩
    · rcases List.mem_cons.mp h1 with h | h
      · rw [h]
        rcases Int.le_total n k with q | q
        · rw [Int.min_eq_left q]
          exact .head _
        · rw [Int.min_eq_right q]
          exact .tail _ (.head _)
      · exact .tail _ (.tail _ h)
    · rcases List.mem_cons.mp hy with rfl | hy
      · exact Int.le_trans hm (Int.min_le_left _ _)
      · rcases List.mem_cons.mp hy with rfl | hy
        · exact Int.le_trans hm (Int.min_le_right _ _)
        · exact h2 y (.tail _ hy)
theorem ints_alike (ns : List Int) : AlikeAll (ns.map PyData.int) := by
  refine ⟨fun x hx y hy => ?_, fun x hx => ?_⟩
  · obtain ⟨i, _, rfl⟩ := List.mem_map.mp hx
    obtain ⟨j, _, rfl⟩ := List.mem_map.mp hy
    rfl
  · obtain ⟨i, _, rfl⟩ := List.mem_map.mp hx
    exact fun h => by cases h
section
variable {X : Cx}
theorem cr_minDef (hu : X.A.units + 2 < cLine) (hc : X.calm = true) : CallRK X (.builtin "min") ["default"] (rMinDef X.K) := by
  intro pins s σ H vs zs us ws Q I r1 r2 h
  obtain ⟨a, ns, d, rfl, rfl, hs, q0, q⟩ := h
  obtain ⟨its, rv, hl, _⟩ := I.list hs
  rw [Vals.ref1 r1]
  obtain ⟨w0, ew, rw0⟩ := vals1 r2
  subst ew
  show wpAny _ _ (call (.builtin "min") [.ref a] [(Str.ofString "default", w0)]) _ _ _
  have hr := ints_readAll s.heap rv.ints
  refine min_list_default (I.ok.hd hc) hl.isList (by simpa using hr) (ints_alike ns) (by rw [PyProof.Rows.depthAll_ints]; omega) (fun e h' tk hk => ?_) fun y ys i v h' tk bs e hv rd hk => ?_
  · have e0 : ns = [] := List.map_eq_nil_iff.mp e
    exact ⟨d, H, I.kept hk, rw0, q0 e0⟩
  · cases ns with
    | nil => cases e
    | cons n ns =>
      obtain ⟨rfl, rfl⟩ := List.cons.inj e
      rw [minD_ints] at rd
      obtain ⟨h1, h2⟩ := fold_min ns n
      cases rd
      exact ⟨.int _, H, I.kept hk, ⟨_, rfl⟩, q _ h1 h2⟩
end
end G1

set_option maxHeartbeats 8000000
namespace G14
open PySem PySem.Spec PyProof.Rows L2 G1
def SizeEi (xs : List Str) (rs ts : List (List Str)) (n : Nat) : Prop := SizeOf xs rs ts n ∨ SizeOf xs ts rs n
def spPSize (C : Addr) : Sp := fun vs H Q _ => ∃ (a b : Addr) (xs : List Str) (rs ts : List (List Str)), vs = [.ref a, .ref b] ∧ PanF H C a xs rs ∧ PanF H C b xs ts ∧ Rw xs rs ∧ Rw xs ts ∧ rs.length ≤ 20 ∧ ts.length ≤ 20 ∧
  (∀ H', Same H H' → (∀ x ∈ xs, (∃ zs, LeastOf xs rs x zs) ∧ ∃ ws, LeastOf xs ts x ws) → (∀ n, ¬ SizeEi xs rs ts n) → Q .non H') ∧ ∀ (n : Nat) (H' : Hp), Same H H' → (∀ x ∈ xs, (∃ zs, LeastOf xs rs x zs) ∧ ∃ ws, LeastOf xs ts x ws) → SizeEi xs rs ts n → (∀ m, SizeEi xs rs ts m → n ≤ m) → Q (.int (n : Int)) H'
section
variable {P : Program} {w : World} {K : PySem.W.Frag} {mg : Str → Option Value} {base : Heap} {C : Addr}
abbrev sPSize : Stmt := top 59
theorem scPSize : FnScope ["one", "other"] ["one", "other"] (defScope sPSize) := ⟨rfl, rfl, rfl, by decide +kernel, rfl, by decide +kernel, by decide +kernel⟩
theorem ok_pSize {f : Addr} {fd : FuncData} (F : FnP K "parting_size" sPSize f fd) (L : Lib K mg) (DC : Df P w K mg base 2 "check_panels" sChkPs ["one", "other"] (spChkPs C)) (DZ : Df P w K mg base 5 "sizes_beyond" sSizes ["one", "other"] (spSizes C)) : FnOk P w K mg base CX0 6 f fd ["one", "other"] (spPSize C) := by
  refine okN F scPSize (fun vs H Q E h => ?_) (fun cdv A outer s H vs Q E hr h => ?_)
  · obtain ⟨_, _, _, _, _, rfl, _⟩ := h
    rfl
  · obtain ⟨a, b, xs, rs, ts, rfl, pa, pb, ga, gb, l1, l2, k1, k2⟩ := h
    have hun := hr.un
    have hu2 : (A.deeper (envOfC "parting_size" (defScope sPSize) s.heap.objs.size f cdv)).units + 2 < cLine := by omega
    have r2 : Room 2 (A.deeper (envOfC "parting_size" (defScope sPSize) s.heap.objs.size f cdv)) := hr.mono (by decide)
    refine ⟨_, pss_cons (ps_expr (pe_df DC r2 (by rfl) (pa_cons (pv 0) (pa_cons (pv 1) pa_nil)))) (pss_one (ps_ret (pe_callBK (cr_minDef hu2 rfl) (by rfl) L.min (by decide +kernel)
      (pa_cons (pe_op op_cat (pe_df DZ hr (by rfl) (pa_cons (pv 0) (pa_cons (pv 1) pa_nil))) (pe_df DZ hr (by rfl) (pa_cons (pv 1) (pa_cons (pv 0) pa_nil)))) pa_nil) (pk_cons pe_non pk_nil)))), ?_⟩
    refine ⟨_, rfl, _, rfl, a, b, xs, rs, ts, rfl, pa, pb, fun H1 s1 => ?_⟩
    refine ⟨_, rfl, _, rfl, a, b, xs, rs, ts, rfl, pa.same s1, pb.same s1, ga, gb, l2, fun D1 ns1 H2 s2 n1 h1 m1 z1 ex => ?_⟩
    have s12 := s1.trans s2
    refine ⟨_, rfl, _, rfl, b, a, xs, ts, rs, rfl, pb.same s12, pa.same s12, gb, ga, l1, fun D2 ns2 H3 s3 n2 h2 m2 z2 _ => ?_⟩
    refine ⟨D1, D2, _, _, rfl, rfl, s3 _ _ h1, h2, Nat.le_trans (m := 6000) (by unfold mskV; rw [List.length_map, List.length_map]; omega) (show 6000 ≤ sizeLine by decide), fun S nS => ?_⟩
    have sS := sn nS (o := .lst (mskV ns1 ++ mskV ns2))
    have hS : upd H3 S (.lst (mskV ns1 ++ mskV ns2)) S = some (.lst (((ns1 ++ ns2).map fun (n : Nat) => (n : Int)).map V.int)) := by
      rw [upd_same]
      unfold mskV
      rw [List.map_map, List.map_append]
      rfl
    generalize upd H3 S (.lst (mskV ns1 ++ mskV ns2)) = H4 at sS hS ⊢
    have s4 := s12.trans (s3.trans sS)
    have mem : ∀ n, n ∈ ns1 ++ ns2 ↔ SizeEi xs rs ts n := fun n => by
      unfold SizeEi
      rw [List.mem_append, m1, m2]
    refine ⟨S, _, .non, rfl, rfl, SqL.of hS, fun e => k1 H4 s4 ex fun n hn => ?_, fun m hm le => ?_⟩
    · have q := (mem n).mpr hn
      rw [List.map_eq_nil_iff.mp e] at q
      cases q
    · obtain ⟨n, hn, rfl⟩ := List.mem_map.mp hm
      refine k2 n H4 s4 ex ((mem n).mp hn) fun m hm => ?_
      have := le (m : Int) (List.mem_map.mpr ⟨m, (mem m).mpr hm, rfl⟩)
      omega
end
end G14

set_option maxHeartbeats 8000000
namespace G14
open PySem PySem.Spec PyProof.Rows L2 G1
def scEqIn : Scope := { kind := .function, names := [(Str.ofString ".0", .local), (Str.ofString "first", .cell), (Str.ofString "enumerate", .globalImplicit), (Str.ofString "rows", .cell)], isGenerator := false, isCoroutine := false }
section
variable {P : Program} {w : World} {K : PySem.W.Frag} {mg : Str → Option Value} {base : Heap} {C : Addr}
end
end G14

set_option maxHeartbeats 8000000
namespace G14
open PySem PySem.Spec PyProof.Rows L2 G1
/-- a def that raises, where it stands, what it promises -/
structure DfX (P : Program) (w : World) (K : PySem.W.Frag) (mg : Str → Option Value) (base : Heap) (k : Nat) (x : Str) (st : Stmt) (ps : List Str) (sp : Sp) : Prop where
  ex : ∃ (f : Addr) (fd : FuncData), FnP K x st f fd ∧ mg x = some (.ref f) ∧ FnOk P w K mg base (L2.CX P w) k f fd ps sp ∧ Binds K fd ps []
theorem pe_dfX {X : Cx} {k : Nat} {x : Str} {st : Stmt} {ps : List Str} {sp : Sp} {e : Expr} {es : List Expr} {t : TA} {p pos : Pos} {W : WX} (D : DfX X.prog X.w X.K X.mg X.base k x st ps sp) (hr : Room k X.A) (hg : Gl X x) (tk : Takes X W) (ha : PA X (e :: es) t)
    (hdb : (x == ("__debug__" : Str)) = false := by decide) (he : starEach (e :: es) X.env = (false, eval e X.env) :: starEach es X.env := by rfl) (hpl : (backTo pos (starEach es X.env)).any (·.1) = false := by rfl) :
    PE X (.Call (.Name x p) (e :: es) [] pos) (tCallS sp (WE W) t) := by
  obtain ⟨f, fd, F, g, G, b⟩ := D.ex
  exact pe_callS G hr hg g F.kp b (fun σ => passAt tk σ) ha hdb he hpl
end G14

set_option maxHeartbeats 8000000
namespace G14
open PySem PySem.Spec PyProof.Rows L2 G1
/-! two panels of the same entries are asked for: what is refused -/
inductive Wd
  | pan
  | unl
deriving DecidableEq
def Wd.str : Wd → Str
  | .pan => "panel"
  | .unl => "unlike"
def Wd.err : Wd → Str
  | .pan => "InvalidPanel"
  | .unl => "Unlike"
/-- the first thing that is not right, and what it is called -/
def Bad2 (K : PySem.W.Frag) (C : Addr) (H : Hp) (u v : V) (wd : Wd) (x : V) : Prop := (wd = .pan ∧ x = u ∧ OddP K C H u) ∨ ∃ (a : Addr) (xs : List Str) (rs : List (List Str)), u = .ref a ∧ PanF H C a xs rs ∧ ((wd = .pan ∧ x = v ∧ OddP K C H v) ∨
  ∃ (b : Addr) (ys : List Str) (ts : List (List Str)), v = .ref b ∧ PanF H C b ys ts ∧ xs ≠ ys ∧ xs.length ≤ 900 ∧ ys.length ≤ 900 ∧ wd = .unl ∧ x = v)
theorem Bad2.same {K : PySem.W.Frag} {C : Addr} {H H' : Hp} {u v x : V} {wd : Wd} (h : Bad2 K C H u v wd x) (s : Same H H') : Bad2 K C H' u v wd x := by
  rcases h with ⟨a, b, c⟩ | ⟨a, xs, rs, e, p, ⟨h1, h2, h3⟩ | ⟨b, ys, ts, e2, q, n, l1, l2, h1, h2⟩⟩
  · exact .inl ⟨a, b, c.same s⟩
  · exact .inr ⟨a, xs, rs, e, p.same s, .inl ⟨h1, h2, h3.same s⟩⟩
  · exact .inr ⟨a, xs, rs, e, p.same s, .inr ⟨b, ys, ts, e2, q.same s, n, l1, l2, h1, h2⟩⟩
def spBadP (K : PySem.W.Frag) (C : Addr) : Sp := fun vs H Q E => ∃ (u v : V) (wd : Wd) (x : V), vs = [u, v] ∧ Bad2 K C H u v wd x ∧ Rz K wd.err x H E
def spBadP3 (K : PySem.W.Frag) (C : Addr) : Sp := fun vs H Q E => ∃ (u v y : V) (wd : Wd) (x : V), vs = [u, v, y] ∧ Bad2 K C H u v wd x ∧ Rz K wd.err x H E
section
variable {P : Program} {w : World} {K : PySem.W.Frag} {mg : Str → Option Value} {base : Heap} {C : Addr}
theorem ok_chkPsX {f : Addr} {fd : FuncData} (F : FnP K "check_panels" sChkPs f fd) (N : PanP P w K mg base C) (R : ErrC P w K mg base "Unlike") (DP : Df P w K mg base 1 "check_panel" sChkP ["panel"] (spChkP C)) (PX : DfX P w K mg base 3 "check_panel" sChkP ["panel"] (spChkPX K C)) :
    FnOk P w K mg base (L2.CX P w) 4 f fd ["one", "other"] (spBadP K C) := by
  refine F.ok scChkPs (fun vs H Q E h => ?_) (fun cdv A outer s H vs Q E hr h => ?_)
  · obtain ⟨_, _, _, _, rfl, _⟩ := h
    rfl
  · obtain ⟨u, v, wd, x, rfl, h, k⟩ := h
    have hun := hr.un
    have hu1 : (A.deeper (envOfC "check_panels" (defScope sChkPs) s.heap.objs.size f cdv)).units + (0 + 1) < cLine := by omega
    have r1 : Room 1 (A.deeper (envOfC "check_panels" (defScope sChkPs) s.heap.objs.size f cdv)) := hr.mono (by decide)
    have r2 : Room 2 (A.deeper (envOfC "check_panels" (defScope sChkPs) s.heap.objs.size f cdv)) := hr.mono (by decide)
    rcases h with ⟨rfl, rfl, o⟩ | ⟨a, xs, rs, rfl, pa, h⟩
    · refine ⟨_, pss_cons (ps_expr (pe_dfX (W := fun cls d _ H' => E cls d H') PX hr (by rfl) (takes_of rfl rfl rfl rfl) (pa_cons (pv 0) pa_nil))) pss_never, ?_⟩
      exact ⟨_, rfl, x, rfl, o, k⟩
    · obtain ⟨dx, gs, fr1, fr2, fr3, fr4⟩ := id pa.fre
      rcases h with ⟨rfl, rfl, o⟩ | ⟨b, ys, ts, rfl, pb, ne, l1, l2, rfl, rfl⟩
      · refine ⟨_, pss_cons (ps_expr (pe_df DP r1 (by rfl) (pa_cons (pv 0) pa_nil))) (pss_cons (ps_expr (pe_dfX (W := fun cls d _ H' => E cls d H') PX hr (by rfl) (takes_of rfl rfl rfl rfl) (pa_cons (pv 1) pa_nil))) pss_never), ?_⟩
        exact ⟨_, rfl, a, dx, gs, rfl, fr1, _, rfl, x, rfl, o, k⟩
      · obtain ⟨dy, gy, fy1, fy2, fy3, fy4⟩ := id pb.fre
        refine ⟨_, pss_cons (ps_expr (pe_df DP r1 (by rfl) (pa_cons (pv 0) pa_nil))) (pss_cons (ps_expr (pe_df DP r1 (by rfl) (pa_cons (pv 1) pa_nil)))
          (pss_one (ps_if (pt_cmpR (op_neW (n := 0) hu1) (pe_mt (pv 0) N.cls N.en r1) (pe_mt (pv 1) N.cls N.en r1) (nomark _)) (pss_one (ps_raiseV rfl R r2 (takes_of rfl rfl rfl rfl) (by rfl) (pv 1))) pss_nil))), ?_⟩
        refine ⟨_, rfl, a, dx, gs, rfl, fr1, _, rfl, b, dy, gy, rfl, fy1, ?_⟩
        refine ⟨_, rfl, a, dx, gs, rfl, fr1, fr2, a, xs, rs, rfl, pa.at_, fun D1 H1 s1 nD1 hD1 => ?_⟩
        refine ⟨_, rfl, b, dy, gy, rfl, s1 _ _ fy1, fy2, b, ys, ts, rfl, pb.at_.same s1, fun D2 H2 s2 nD2 hD2 => ?_⟩
        refine ⟨_, lists_strs (SqL.of (s2 _ _ hD1)) (SqL.of hD2), _, rfl, ?_⟩
        rw [decide_eq_false ne]
        exact iteT ⟨_, rfl, fun d H' s nd hd => k d H' ((s1.trans s2).trans s) ((s1.trans s2).free nd) hd⟩
theorem ok_alikeX {f : Addr} {fd : FuncData} (F : FnP K "alike" sAlike f fd) (CX : DfX P w K mg base 4 "check_panels" sChkPs ["one", "other"] (spBadP K C)) : FnOk P w K mg base (L2.CX P w) 5 f fd ["one", "other"] (spBadP K C) := by
  refine F.ok scAlike (fun vs H Q E h => ?_) (fun cdv A outer s H vs Q E hr h => ?_)
  · obtain ⟨_, _, _, _, rfl, _⟩ := h
    rfl
  · obtain ⟨u, v, wd, x, rfl, h, k⟩ := h
    refine ⟨_, pss_cons (ps_expr (pe_dfX (W := fun cls d _ H' => E cls d H') CX hr (by rfl) (takes_of rfl rfl rfl rfl) (pa_cons (pv 0) (pa_cons (pv 1) pa_nil)))) pss_never, ?_⟩
    exact ⟨_, rfl, _, rfl, u, v, wd, x, rfl, h, k⟩
theorem ok_beyondX {f : Addr} {fd : FuncData} (F : FnP K "beyond" sBeyond f fd) (CX : DfX P w K mg base 4 "check_panels" sChkPs ["one", "other"] (spBadP K C)) : FnOk P w K mg base (L2.CX P w) 5 f fd ["one", "other"] (spBadP K C) := by
  refine F.ok scBeyond (fun vs H Q E h => ?_) (fun cdv A outer s H vs Q E hr h => ?_)
  · obtain ⟨_, _, _, _, rfl, _⟩ := h
    rfl
  · obtain ⟨u, v, wd, x, rfl, h, k⟩ := h
    refine ⟨_, pss_cons (ps_expr (pe_dfX (W := fun cls d _ H' => E cls d H') CX hr (by rfl) (takes_of rfl rfl rfl rfl) (pa_cons (pv 0) (pa_cons (pv 1) pa_nil)))) pss_never, ?_⟩
    exact ⟨_, rfl, _, rfl, u, v, wd, x, rfl, h, k⟩
theorem ok_bad_rowX {f : Addr} {fd : FuncData} (F : FnP K "bad_row" sBad f fd) (CX : DfX P w K mg base 4 "check_panels" sChkPs ["one", "other"] (spBadP K C)) : FnOk P w K mg base (L2.CX P w) 5 f fd ["one", "other"] (spBadP K C) := by
  refine F.ok scBad (fun vs H Q E h => ?_) (fun cdv A outer s H vs Q E hr h => ?_)
  · obtain ⟨_, _, _, _, rfl, _⟩ := h
    rfl
  · obtain ⟨u, v, wd, x, rfl, h, k⟩ := h
    refine ⟨_, pss_cons (ps_expr (pe_dfX (W := fun cls d _ H' => E cls d H') CX hr (by rfl) (takes_of rfl rfl rfl rfl) (pa_cons (pv 0) (pa_cons (pv 1) pa_nil)))) pss_never, ?_⟩
    exact ⟨_, rfl, _, rfl, u, v, wd, x, rfl, h, k⟩
theorem ok_parting_fieldX {f : Addr} {fd : FuncData} (F : FnP K "parting_field" sPF f fd) (CX : DfX P w K mg base 4 "check_panels" sChkPs ["one", "other"] (spBadP K C)) : FnOk P w K mg base (L2.CX P w) 5 f fd ["one", "other"] (spBadP K C) := by
  refine F.ok scPF (fun vs H Q E h => ?_) (fun cdv A outer s H vs Q E hr h => ?_)
  · obtain ⟨_, _, _, _, rfl, _⟩ := h
    rfl
  · obtain ⟨u, v, wd, x, rfl, h, k⟩ := h
    refine ⟨_, pss_cons (ps_expr (pe_dfX (W := fun cls d _ H' => E cls d H') CX hr (by rfl) (takes_of rfl rfl rfl rfl) (pa_cons (pv 0) (pa_cons (pv 1) pa_nil)))) pss_never, ?_⟩
    exact ⟨_, rfl, _, rfl, u, v, wd, x, rfl, h, k⟩
theorem ok_parting_sizeX {f : Addr} {fd : FuncData} (F : FnP K "parting_size" sPSize f fd) (CX : DfX P w K mg base 4 "check_panels" sChkPs ["one", "other"] (spBadP K C)) : FnOk P w K mg base (L2.CX P w) 5 f fd ["one", "other"] (spBadP K C) := by
  refine F.ok scPSize (fun vs H Q E h => ?_) (fun cdv A outer s H vs Q E hr h => ?_)
  · obtain ⟨_, _, _, _, rfl, _⟩ := h
    rfl
  · obtain ⟨u, v, wd, x, rfl, h, k⟩ := h
    refine ⟨_, pss_cons (ps_expr (pe_dfX (W := fun cls d _ H' => E cls d H') CX hr (by rfl) (takes_of rfl rfl rfl rfl) (pa_cons (pv 0) (pa_cons (pv 1) pa_nil)))) pss_never, ?_⟩
    exact ⟨_, rfl, _, rfl, u, v, wd, x, rfl, h, k⟩
theorem ok_parting_pairsX {f : Addr} {fd : FuncData} (F : FnP K "parting_pairs" sPPairs f fd) (CX : DfX P w K mg base 4 "check_panels" sChkPs ["one", "other"] (spBadP K C)) : FnOk P w K mg base (L2.CX P w) 5 f fd ["one", "other"] (spBadP K C) := by
  refine F.ok scPPairs (fun vs H Q E h => ?_) (fun cdv A outer s H vs Q E hr h => ?_)
  · obtain ⟨_, _, _, _, rfl, _⟩ := h
    rfl
  · obtain ⟨u, v, wd, x, rfl, h, k⟩ := h
    refine ⟨_, pss_cons (ps_expr (pe_dfX (W := fun cls d _ H' => E cls d H') CX hr (by rfl) (takes_of rfl rfl rfl rfl) (pa_cons (pv 0) (pa_cons (pv 1) pa_nil)))) pss_never, ?_⟩
    exact ⟨_, rfl, _, rfl, u, v, wd, x, rfl, h, k⟩
theorem ok_is_parting_fieldX {f : Addr} {fd : FuncData} (F : FnP K "is_parting_field" sIPF f fd) (CX : DfX P w K mg base 4 "check_panels" sChkPs ["one", "other"] (spBadP K C)) : FnOk P w K mg base (L2.CX P w) 5 f fd ["one", "other", "value"] (spBadP3 K C) := by
  refine F.ok scIPF (fun vs H Q E h => ?_) (fun cdv A outer s H vs Q E hr h => ?_)
  · obtain ⟨_, _, _, _, _, rfl, _⟩ := h
    rfl
  · obtain ⟨u, v, y, wd, x, rfl, h, k⟩ := h
    refine ⟨_, pss_cons (ps_expr (pe_dfX (W := fun cls d _ H' => E cls d H') CX hr (by rfl) (takes_of rfl rfl rfl rfl) (pa_cons (pv 0) (pa_cons (pv 1) pa_nil)))) pss_never, ?_⟩
    exact ⟨_, rfl, _, rfl, u, v, wd, x, rfl, h, k⟩
theorem ok_withinX {f : Addr} {fd : FuncData} (F : FnP K "within" sWithin f fd) (BX : DfX P w K mg base 5 "bad_row" sBad ["one", "other"] (spBadP K C)) : FnOk P w K mg base (L2.CX P w) 6 f fd ["one", "other"] (spBadP K C) := by
  refine F.ok scWithin (fun vs H Q E h => ?_) (fun cdv A outer s H vs Q E hr h => ?_)
  · obtain ⟨_, _, _, _, rfl, _⟩ := h
    rfl
  · obtain ⟨u, v, wd, x, rfl, h, k⟩ := h
    refine ⟨_, pss_one (ps_ret (pe_cmpR op_isN (pe_dfX (W := fun cls d _ H' => E cls d H') BX hr (by rfl) (takes_of rfl rfl rfl rfl) (pa_cons (pv 0) (pa_cons (pv 1) pa_nil))) pe_non (nomark _))), ?_⟩
    exact ⟨_, rfl, _, rfl, u, v, wd, x, rfl, h, k⟩
end
end G14

set_option maxHeartbeats 4000000
namespace G14
open PySem PySem.Spec PyProof.Rows L2 G1
/-! The sizes are the sizes of the fields whose cards are unlike: no program here. -/
theorem least_sub : ∀ {ys acc : List Nat} {m : Nat}, m ∈ ys.foldl leastS acc → m ∈ acc ∨ m ∈ ys
  | [], _, _, h => .inl h
  | y :: ys, acc, m, h => by
    rcases least_sub (ys := ys) h with h | h
    · unfold leastS at h
      split at h
      · exact .inl h
      · rcases List.mem_append.mp h with h | h
        · exact .inl h
        · exact .inr (by rw [List.mem_singleton.mp h]; exact .head _)
    · exact .inr (.tail _ h)
theorem LeastOf.row {xs : List Str} {rs : List (List Str)} {x : Str} {zs : List Nat} (h : LeastOf xs rs x zs) {m : Nat} (hm : m ∈ zs) : ∃ r ∈ rs, m = aheadM xs r x := by
  obtain ⟨ys, _, _, mem, _, rfl⟩ := h
  obtain ⟨r, hr, e⟩ := List.mem_map.mp ((mem m).mp ((least_sub hm).elim (fun h => nomatch h) id))
  exact ⟨r, hr, e.symm⟩
theorem LeastOf.under {xs : List Str} {rs : List (List Str)} {x : Str} {zs : List Nat} (h : LeastOf xs rs x zs) {r : List Str} (hr : r ∈ rs) : ∃ m ∈ zs, inB m (aheadM xs r x) = true := by
  obtain ⟨ys, _, _, mem, _, rfl⟩ := h
  have q : holdB (aheadM xs r x) (leastM ys) = true := by
    rw [holdB_least]
    exact List.any_eq_true.mpr ⟨_, (mem _).mpr (List.mem_map.mpr ⟨r, hr, rfl⟩), by rw [inB_iff, Nat.and_self]⟩
  exact List.any_eq_true.mp q
theorem ahead_bit {xs r : List Str} {x y : Str} (hy : y ∈ xs) : (aheadM xs r x).testBit (xs.idxOf y) = decide (y ∈ r.take (r.idxOf x)) := by
  unfold aheadM
  rw [msk_test, List.getElem?_eq_getElem (List.idxOf_lt_length_of_mem hy), List.getElem_idxOf]
  rfl
theorem inB_bit {a b i : Nat} (h : inB a b = true) (ha : a.testBit i = true) : b.testBit i = true := by
  have q := congrArg (fun n => Nat.testBit n i) (inB_iff.mp h)
  simp only [Nat.testBit_and, ha, Bool.true_and] at q
  exact q
/-- a name for each choice -/
theorem names_for {xs : List Str} {ws : List Nat} {mask : Nat} : ∀ {T : List Nat}, (∀ c ∈ T, c ∈ outKeys xs ws mask) → ∃ Y : List Str, Y.length = T.length ∧ (∀ y ∈ Y, y ∈ xs ∧ mask.testBit (xs.idxOf y) = false) ∧ ∀ c ∈ T, ∃ y ∈ Y, c = metM ws (xs.idxOf y)
  | [], _ => ⟨[], rfl, (fun _ h => nomatch h), fun _ h => nomatch h⟩
  | c :: T, h => by
    obtain ⟨Y, h1, h2, h3⟩ := names_for (T := T) fun d hd => h d (.tail _ hd)
    have hc := h c (.head _)
    unfold outKeys at hc
    obtain ⟨y, hy, e⟩ := List.mem_map.mp hc
    obtain ⟨hy1, hy2⟩ := List.mem_filter.mp hy
    have hb : mask.testBit (xs.idxOf y) = false := by
      revert hy2
      cases mask.testBit (xs.idxOf y) <;> exact fun h => (by first | rfl | cases h)
    refine ⟨y :: Y, by rw [List.length_cons, List.length_cons, h1], fun z hz => ?_, fun d hd => ?_⟩
    · rcases List.mem_cons.mp hz with rfl | hz
      · exact ⟨hy1, hb⟩
      · exact h2 z hz
    · rcases List.mem_cons.mp hd with rfl | hd
      · exact ⟨y, .head _, e.symm⟩
      · obtain ⟨z, hz, q⟩ := h3 d hd
        exact ⟨z, .tail _ hz, q⟩
section
variable {xs : List Str} {rs ts : List (List Str)}
/-- a size tells a field that is no longer, whose cards are unlike -/
theorem size_field (nd : xs.Nodup) (pr : ∀ r ∈ rs, r.Perm xs) (pt : ∀ t ∈ ts, t.Perm xs) {n : Nat} (h : SizeOf xs rs ts n) : ∃ fs ∈ (subs xs).drop 1, (∃ z, z ∈ cdsOf fs rs ∧ z ∉ cdsOf fs ts) ∧ fs.length ≤ n := by
  obtain ⟨x, hx, zs, ws, lz, lw, mask, hmask, k, ⟨⟨T, l1, hT, eT⟩, _⟩, rfl⟩ := h
  obtain ⟨Y, lY, hY, cY⟩ := names_for hT
  obtain ⟨r, hr, rfl⟩ := lz.row hmask
  have ef : ∀ y, y ∈ xs.filter (fun y => decide (y = x ∨ y ∈ Y)) ↔ y = x ∨ y ∈ Y := fun y => by
    rw [List.mem_filter, decide_eq_true_iff]
    exact ⟨fun h => h.2, fun h => ⟨h.elim (fun e => e ▸ hx) fun h => (hY y h).1, h⟩⟩
  have sl : (xs.filter fun y => decide (y = x ∨ y ∈ Y)).Sublist xs := List.filter_sublist
  have xf : x ∈ xs.filter fun y => decide (y = x ∨ y ∈ Y) := (ef x).mpr (.inl rfl)
  refine ⟨xs.filter fun y => decide (y = x ∨ y ∈ Y), subs_mem sl (List.length_pos_of_mem xf), ⟨x, ?_, fun hc => ?_⟩, ?_⟩
  · refine cds_mem.mpr ⟨r, hr, (fst_iff ((pr r hr).mem_iff.mpr hx) xf).mpr fun y hy hyf => ?_⟩
    rcases (ef y).mp hyf with rfl | h
    · exact take_self hy
    · obtain ⟨h1, h2⟩ := hY y h
      rw [ahead_bit h1, decide_eq_true hy] at h2
      cases h2
  · obtain ⟨t, ht, q⟩ := cds_mem.mp hc
    have q2 := (fst_iff ((pt t ht).mem_iff.mpr hx) xf).mp q
    obtain ⟨w, hw, iw⟩ := lw.under ht
    obtain ⟨i, hi, ei⟩ := List.mem_iff_getElem.mp hw
    have bi : (orM T).testBit i = true := by rw [eT, every_bit, decide_eq_true hi]
    obtain ⟨c, hcT, cb⟩ := orM_bit.mp bi
    obtain ⟨y, hyY, rfl⟩ := cY c hcT
    rw [metM_bit, List.getElem?_eq_getElem hi, ei] at cb
    have b2 := inB_bit iw (show w.testBit (xs.idxOf y) = true from cb)
    rw [ahead_bit (hY y hyY).1] at b2
    exact q2 y (of_decide_eq_true b2) ((ef y).mpr (.inr hyY))
  · have q := nd_sub_len (l := xs.filter fun y => decide (y = x ∨ y ∈ Y)) (m := x :: Y) (sl.nodup nd) fun y hy => ((ef y).mp hy).elim (fun e => e ▸ List.mem_cons_self) fun h => .tail _ h
    rw [List.length_cons] at q
    omega
theorem least_ex {ks : List Nat} {many : Nat} : ∀ (m : Nat) (T : List Nat), T.length = m → (∀ c ∈ T, c ∈ ks) → orM T = everyM many → ∃ k, k ≤ m ∧ LeastK ks many k := fun m => by
  induction m using Nat.strongRecOn with
  | _ m ih =>
    intro T l1 h1 h2
    by_cases q : ∃ U : List Nat, U.length < m ∧ (∀ c ∈ U, c ∈ ks) ∧ orM U = everyM many
    · obtain ⟨U, lU, u1, u2⟩ := q
      obtain ⟨k, lk, hk⟩ := ih U.length lU U rfl u1 u2
      exact ⟨k, by omega, hk⟩
    · exact ⟨m, Nat.le_refl _, ⟨T, l1, h1, h2⟩, fun U u1 u2 => Nat.le_of_not_lt fun lt => q ⟨U, lt, u1, u2⟩⟩
/-- a field whose cards are unlike tells a size that is no greater -/
theorem field_size (nd : xs.Nodup) (pr : ∀ r ∈ rs, r.Perm xs) (pt : ∀ t ∈ ts, t.Perm xs) (ex : ∀ x ∈ xs, (∃ zs, LeastOf xs rs x zs) ∧ ∃ ws, LeastOf xs ts x ws) {fs : List Str} (hf : fs.Sublist xs) {z : Str} (h1 : z ∈ cdsOf fs rs) (h2 : z ∉ cdsOf fs ts) : ∃ n, n ≤ fs.length ∧ SizeOf xs rs ts n := by
  obtain ⟨r, hr, q⟩ := cds_mem.mp h1
  have zr : z ∈ r := List.mem_of_find?_eq_some q
  have zf : z ∈ fs := of_decide_eq_true (List.find?_some (p := fun y => decide (y ∈ fs)) q)
  have zx : z ∈ xs := hf.subset zf
  have fq := (fst_iff zr zf).mp q
  obtain ⟨⟨zs, lz⟩, ws, lw⟩ := ex z zx
  obtain ⟨mask, hmask, im⟩ := lz.under hr
  have nf : fs.Nodup := hf.nodup nd
  have lf := List.length_pos_of_mem zf
  obtain ⟨k, lk, hk⟩ := least_ex (ks := outKeys xs ws mask) (many := ws.length) (fs.erase z).length ((fs.erase z).map fun y => metM ws (xs.idxOf y)) (List.length_map _) (fun c hc => by
    obtain ⟨y, hy, rfl⟩ := List.mem_map.mp hc
    have yf := List.mem_of_mem_erase hy
    have yx := hf.subset yf
    unfold outKeys
    refine List.mem_map.mpr ⟨y, List.mem_filter.mpr ⟨yx, ?_⟩, rfl⟩
    cases e : mask.testBit (xs.idxOf y) with
    | false => rfl
    | true =>
      have b := inB_bit im e
      rw [ahead_bit yx] at b
      exact (fq y (of_decide_eq_true b) yf).elim) (Nat.eq_of_testBit_eq fun i => by
    rw [every_bit]
    by_cases li : i < ws.length
    · rw [decide_eq_true li]
      obtain ⟨t, ht, e⟩ := lw.row (List.getElem_mem li)
      have zt : z ∈ t := (pt t ht).mem_iff.mpr zx
      obtain ⟨y, hy, yf⟩ : ∃ y, y ∈ t.take (t.idxOf z) ∧ y ∈ fs := Classical.byContradiction fun no => h2 (cds_mem.mpr ⟨t, ht, (fst_iff zt zf).mpr fun y hy yf => no ⟨y, hy, yf⟩⟩)
      have ne : y ≠ z := fun e => take_self (e ▸ hy)
      refine orM_bit.mpr ⟨_, List.mem_map.mpr ⟨y, (List.mem_erase_of_ne ne).mpr yf, rfl⟩, ?_⟩
      rw [metM_bit, List.getElem?_eq_getElem li, e]
      show (aheadM xs t z).testBit (xs.idxOf y) = true
      rw [ahead_bit (hf.subset yf), decide_eq_true hy]
    · rw [decide_eq_false li]
      refine Nat.testBit_lt_two_pow (Nat.lt_of_lt_of_le (orM_lt (n := ws.length) fun c hc => ?_) (Nat.pow_le_pow_right (by decide) (by omega)))
      obtain ⟨y, _, rfl⟩ := List.mem_map.mp hc
      exact metM_lt)
  rw [List.length_erase_of_mem zf] at lk
  exact ⟨k + 1, by omega, z, zx, zs, ws, lz, lw, mask, hmask, k, hk, rfl⟩
theorem not_same {fs : List Str} (h : sameC fs rs ts = false) : (∃ z, z ∈ cdsOf fs rs ∧ z ∉ cdsOf fs ts) ∨ ∃ z, z ∈ cdsOf fs ts ∧ z ∉ cdsOf fs rs := by
  refine Classical.byContradiction fun no => ?_
  have t : sameC fs rs ts = true := sameC_iff.mpr fun z => ⟨fun a => Classical.byContradiction fun b => no (.inl ⟨z, a, b⟩), fun a => Classical.byContradiction fun b => no (.inr ⟨z, a, b⟩)⟩
  rw [t] at h
  cases h
theorem same_not {fs : List Str} (h : (∃ z, z ∈ cdsOf fs rs ∧ z ∉ cdsOf fs ts) ∨ ∃ z, z ∈ cdsOf fs ts ∧ z ∉ cdsOf fs rs) : sameC fs rs ts = false := by
  cases e : sameC fs rs ts with
  | false => rfl
  | true =>
    have q := sameC_iff.mp e
    rcases h with ⟨z, a, b⟩ | ⟨z, a, b⟩
    · exact (b ((q z).mp a)).elim
    · exact (b ((q z).mpr a)).elim
/-- each size tells a field no longer than it, and each field a size no greater -/
theorem sizes_fields (nd : xs.Nodup) (pr : ∀ r ∈ rs, r.Perm xs) (pt : ∀ t ∈ ts, t.Perm xs) (ex : ∀ x ∈ xs, (∃ zs, LeastOf xs rs x zs) ∧ ∃ ws, LeastOf xs ts x ws) : (∀ n, SizeEi xs rs ts n → ∃ fs ∈ (subs xs).drop 1, sameC fs rs ts = false ∧ fs.length ≤ n) ∧ ∀ fs : List Str, fs.Sublist xs → sameC fs rs ts = false → ∃ n, n ≤ fs.length ∧ SizeEi xs rs ts n := by
  refine ⟨fun n h => ?_, fun fs hf h => ?_⟩
  · rcases h with h | h
    · obtain ⟨fs, h1, h2, h3⟩ := size_field nd pr pt h
      exact ⟨fs, h1, same_not (.inl h2), h3⟩
    · obtain ⟨fs, h1, h2, h3⟩ := size_field nd pt pr h
      exact ⟨fs, h1, same_not (.inr h2), h3⟩
  · rcases not_same h with ⟨z, a, b⟩ | ⟨z, a, b⟩
    · obtain ⟨n, l, s⟩ := field_size nd pr pt ex hf a b
      exact ⟨n, l, .inl s⟩
    · obtain ⟨n, l, s⟩ := field_size nd pt pr (fun x hx => ⟨(ex x hx).2, (ex x hx).1⟩) hf a b
      exact ⟨n, l, .inr s⟩
end
end G14

set_option maxHeartbeats 4000000
namespace G14
open PySem PySem.Spec PyProof.Rows L2 G1
/-! The pairs are the due fields of two names: no program here. -/
theorem take_idx {r : List Str} {y : Str} (nd : r.Nodup) (hy : y ∈ r) {k : Nat} : y ∈ r.take k ↔ r.idxOf y < k := by
  have hl := List.idxOf_lt_length_of_mem hy
  constructor
  · intro h
    obtain ⟨j, hj, e⟩ := List.mem_iff_getElem.mp h
    rw [List.length_take] at hj
    rw [List.getElem_take] at e
    have q := idx_at nd (show r[j]? = some y by rw [List.getElem?_eq_getElem (by omega), e])
    omega
  · intro h
    refine List.mem_iff_getElem.mpr ⟨r.idxOf y, by rw [List.length_take]; omega, ?_⟩
    rw [List.getElem_take]
    exact List.getElem_idxOf hl
theorem idx_ne {r : List Str} {x y : Str} (hx : x ∈ r) (hy : y ∈ r) (ne : x ≠ y) : r.idxOf x ≠ r.idxOf y := fun e => ne (by
  have h1 := List.getElem_idxOf (List.idxOf_lt_length_of_mem hx)
  have h2 := List.getElem_idxOf (List.idxOf_lt_length_of_mem hy)
  rw [← h1, ← h2]
  congr 1)
theorem fst_pair {r : List Str} {x y : Str} (nd : r.Nodup) (hx : x ∈ r) (hy : y ∈ r) (ne : x ≠ y) : fst? [x, y] r = some y ↔ y ∈ r.take (r.idxOf x) := by
  rw [fst_iff hy (.tail _ (.head _)), take_idx nd hy]
  have n2 := idx_ne hx hy ne
  constructor
  · intro h
    refine Nat.lt_of_not_le fun le => h x ((take_idx nd hx).mpr (by omega)) (.head _)
  · intro lt w hw hf
    rcases List.mem_cons.mp hf with rfl | hf
    · have := (take_idx nd hx).mp hw
      omega
    · rw [List.mem_singleton.mp hf] at hw
      exact take_self hw
theorem fst_swap {r : List Str} {x y : Str} : fst? [x, y] r = fst? [y, x] r := by
  unfold fst?
  congr 1
  funext w
  rw [Bool.eq_iff_iff, decide_eq_true_iff, decide_eq_true_iff]
  simp only [List.mem_cons, List.not_mem_nil, or_false]
  exact ⟨Or.symm, Or.symm⟩
section
variable {xs : List Str} {rs ts : List (List Str)}
theorem once_card (nd : xs.Nodup) (pr : ∀ r ∈ rs, r.Perm xs) {x y : Str} (hx : x ∈ xs) (hy : y ∈ xs) (ne : x ≠ y) : (onceM xs rs x).testBit (xs.idxOf y) = true ↔ y ∈ cdsOf [x, y] rs := by
  unfold onceM
  rw [orM_bit, cds_mem]
  constructor
  · rintro ⟨m, hm, hb⟩
    obtain ⟨r, hr, rfl⟩ := List.mem_map.mp hm
    rw [ahead_bit hy] at hb
    exact ⟨r, hr, (fst_pair ((pr r hr).nodup_iff.mpr nd) ((pr r hr).mem_iff.mpr hx) ((pr r hr).mem_iff.mpr hy) ne).mpr (of_decide_eq_true hb)⟩
  · rintro ⟨r, hr, e⟩
    refine ⟨_, List.mem_map.mpr ⟨r, hr, rfl⟩, ?_⟩
    rw [ahead_bit hy]
    exact decide_eq_true ((fst_pair ((pr r hr).nodup_iff.mpr nd) ((pr r hr).mem_iff.mpr hx) ((pr r hr).mem_iff.mpr hy) ne).mp e)
theorem cds_swap {x y z : Str} : z ∈ cdsOf [x, y] rs ↔ z ∈ cdsOf [y, x] rs := by
  rw [cds_mem, cds_mem]
  exact ⟨fun ⟨r, hr, e⟩ => ⟨r, hr, by rw [fst_swap]; exact e⟩, fun ⟨r, hr, e⟩ => ⟨r, hr, by rw [fst_swap]; exact e⟩⟩
theorem cds_two {x y z : Str} (h : z ∈ cdsOf [x, y] rs) : z = x ∨ z = y := by
  obtain ⟨r, _, e⟩ := cds_mem.mp h
  have q := of_decide_eq_true (List.find?_some (p := fun w => decide (w ∈ [x, y])) e)
  simpa using q
theorem chg_iff (nd : xs.Nodup) (pr : ∀ r ∈ rs, r.Perm xs) (pt : ∀ t ∈ ts, t.Perm xs) {x y : Str} (hx : x ∈ xs) (hy : y ∈ xs) (ne : x ≠ y) : chgB xs rs ts x y = false ↔ (y ∈ cdsOf [x, y] rs ↔ y ∈ cdsOf [x, y] ts) := by
  unfold chgB
  rw [Nat.testBit_xor, ← once_card nd pr hx hy ne, ← once_card nd pt hx hy ne]
  cases (onceM xs rs x).testBit (xs.idxOf y) <;> cases (onceM xs ts x).testBit (xs.idxOf y) <;> simp
/-- a pair is told just when its cards are unlike -/
theorem pair_due (nd : xs.Nodup) (pr : ∀ r ∈ rs, r.Perm xs) (pt : ∀ t ∈ ts, t.Perm xs) {x y : Str} (hx : x ∈ xs) (hy : y ∈ xs) (ne : x ≠ y) : pairB xs rs ts x y = !sameC [x, y] rs ts := by
  have e : (pairB xs rs ts x y = false) ↔ sameC [x, y] rs ts = true := by
    unfold pairB
    rw [Bool.or_eq_false_iff, chg_iff nd pr pt hx hy ne, chg_iff nd pr pt hy hx (Ne.symm ne), sameC_iff]
    constructor
    · rintro ⟨h1, h2⟩ z
      constructor
      · intro h
        rcases cds_two h with rfl | rfl
        · exact cds_swap.mp (h2.mp (cds_swap.mp h))
        · exact h1.mp h
      · intro h
        rcases cds_two h with rfl | rfl
        · exact cds_swap.mp (h2.mpr (cds_swap.mp h))
        · exact h1.mpr h
    · intro h
      exact ⟨h y, cds_swap.trans ((h x).trans cds_swap)⟩
  cases q : sameC [x, y] rs ts with
  | true => rw [e.mpr q]; rfl
  | false =>
    cases p : pairB xs rs ts x y with
    | true => rfl
    | false => rw [e.mp p] at q; cases q
/-- the pairs that are told, and the due fields of two names -/
theorem pairs_due (nd : xs.Nodup) (pr : ∀ r ∈ rs, r.Perm xs) (pt : ∀ t ∈ ts, t.Perm xs) {fs : List Str} : fs ∈ pairsTo (pairB xs rs ts) xs xs.length ↔ fs.Sublist xs ∧ fs.length = 2 ∧ sameC fs rs ts = false := by
  rw [pairs_mem]
  constructor
  · rintro ⟨a, x, y, ha, hx, hy, hp, rfl⟩
    have e : xs = xs.take a ++ x :: xs.drop (a + 1) := by
      have q := List.getElem?_eq_some_iff.mp hx
      rw [← q.2, List.getElem_cons_drop, List.take_append_drop]
    have mx := List.mem_of_getElem? hx
    have my := List.mem_of_mem_drop hy
    have ne : x ≠ y := fun q => by
      have n2 := nd
      rw [e] at n2
      exact (List.nodup_cons.mp (List.nodup_append.mp n2).2.1).1 (q ▸ hy)
    refine ⟨?_, rfl, ?_⟩
    · have s : [x, y].Sublist (x :: xs.drop (a + 1)) := (List.singleton_sublist.mpr hy).cons₂ x
      exact (s.trans (List.sublist_append_right _ _)).trans (by rw [← e]; exact List.Sublist.refl _)
    · rw [pair_due nd pr pt mx my ne] at hp
      revert hp
      cases sameC [x, y] rs ts <;> exact fun h => (by first | rfl | cases h)
  · rintro ⟨s, l, h⟩
    match fs, l with
    | [x, y], _ =>
      have mx : x ∈ xs := s.subset (.head _)
      have my : y ∈ xs := s.subset (.tail _ (.head _))
      have ne : x ≠ y := fun q => by
        have := (List.nodup_cons.mp (s.nodup nd)).1
        rw [q] at this
        exact this (.head _)
      have ix := List.idxOf_lt_length_of_mem mx
      have ex : xs[xs.idxOf x]? = some x := by rw [List.getElem?_eq_getElem ix, List.getElem_idxOf]
      refine ⟨xs.idxOf x, x, y, ix, ex, ?_, by rw [pair_due nd pr pt mx my ne, h]; rfl, rfl⟩
      have e : xs = xs.take (xs.idxOf x) ++ x :: xs.drop (xs.idxOf x + 1) := by
        have q := List.getElem?_eq_some_iff.mp ex
        conv => lhs; rw [← List.take_append_drop (xs.idxOf x) xs, List.drop_eq_getElem_cons ix, q.2]
      rw [e] at s
      obtain ⟨l1, l2, el, s1, s2⟩ := List.sublist_append_iff.mp s
      cases l1 with
      | nil =>
        rw [List.nil_append] at el
        rw [← el] at s2
        have s3 := List.cons_sublist_cons.mp s2
        exact s3.subset (.head _)
      | cons w l1 =>
        have ew : x = w := (List.cons.inj el).1
        exact (take_self (ew ▸ s1.subset (.head _))).elim
end
end G14

set_option maxHeartbeats 4000000
namespace G14
open PySem PySem.Spec PyProof.Rows L2 G1 PySem.W
/-! The pairs stand in the order that sorted() gives: no program here. -/
def ltR (a b : List Str) : Prop := dataLt (rd a) (rd b) = true
theorem le_lt {a b : List Str} : leRow a b = !dataLt (rd b) (rd a) := rfl
theorem leRow_total : TotalLe leRow := sortLe_total (listOrd itemOrd) false fun r : List Str => keyToks (rd r)
theorem ltR_not {a b : List Str} (h : ltR a b) : leRow b a = false := by
  rw [le_lt, h]
  rfl
theorem ltR_le {a b : List Str} (h : ltR a b) : leRow a b = true := by
  rcases leRow_total.total a b with q | q
  · exact q
  · rw [ltR_not h] at q
    cases q
theorem sort_uniq {l m : List (List Str)} (p : l.Perm m) (s : m.Pairwise ltR) : sortR l = m := by
  refine (sortR_perm.trans p).eq_of_pairwise (le := fun a b => leRow a b = true) (fun a b ha hb h1 h2 => ?_) (List.pairwise_mergeSort leRow_total.trans (fun a b => by rcases leRow_total.total a b with q | q <;> rw [q] <;> simp) l) (s.imp fun h => ltR_le h)
  have am : a ∈ m := (sortR_perm.trans p).mem_iff.mp ha
  obtain ⟨i, hi, rfl⟩ := List.mem_iff_getElem.mp am
  obtain ⟨j, hj, rfl⟩ := List.mem_iff_getElem.mp hb
  rcases Nat.lt_trichotomy i j with q | q | q
  · have := ltR_not (List.pairwise_iff_getElem.mp s i j hi hj q)
    rw [this] at h2
    cases h2
  · subst q
    rfl
  · have := ltR_not (List.pairwise_iff_getElem.mp s j i hj hi q)
    rw [this] at h1
    cases h1
theorem lt_pair {x y x' y' : Str} : dataLt (rd [x, y]) (rd [x', y']) = if x = x' then (if y = y' then false else decide (y.cps.toList < y'.cps.toList)) else decide (x.cps.toList < x'.cps.toList) := by
  show dataLt (.list [.str x, .str y]) (.list [.str x', .str y']) = _
  have es : ∀ a b : Str, PyData.eqv (.str a) (.str b) = decide (a = b) := fun a b => by
    first | rfl | (simp [PyData.eqv]; done) | (unfold PyData.eqv; rfl) | (rw [Bool.eq_iff_iff]; simp [PyData.eqv])
  rw [dataLt_list, dataLt_cons (by rfl), dataLt_cons (by rfl), es, es, dataLt_str, dataLt_str]
  have e0 : PyProof.Rows.lexLt itemOrd (keyToksAll []) (keyToksAll []) = false := by unfold keyToksAll; rfl
  rw [e0]
  by_cases h : x = x'
  · by_cases h2 : y = y' <;> simp [h, h2]
  · simp [h]
theorem lt_str {a b : Str} (h : leS a b) (n : a ≠ b) : decide (a.cps.toList < b.cps.toList) = true := decide_eq_true (Classical.byContradiction fun q => n (leS_anti h q))
theorem ltR_fst {x y x' y' : Str} (h : leS x x') (n : x ≠ x') : ltR [x, y] [x', y'] := by
  unfold ltR
  rw [lt_pair, if_neg n]
  exact lt_str h n
theorem ltR_snd {x y y' : Str} (h : leS y y') (n : y ≠ y') : ltR [x, y] [x, y'] := by
  unfold ltR
  rw [lt_pair, if_pos rfl, if_neg n]
  exact lt_str h n
theorem pairsAt_sorted {p : Str → Str → Bool} {xs : List Str} (s : xs.Pairwise leS) (nd : xs.Nodup) {i k : Nat} : (pairsAt p xs i k).Pairwise ltR := by
  unfold pairsAt
  cases xs[i]? with
  | none => exact .nil
  | some x =>
    dsimp only
    rw [List.pairwise_map]
    have sb : (((xs.drop (i + 1)).take k).filter (p x)).Sublist xs := (List.filter_sublist.trans (List.take_sublist _ _)).trans (List.drop_sublist _ _)
    exact ((s.sublist sb).and (nd.sublist sb)).imp fun h => ltR_snd h.1 h.2
theorem pairsTo_sorted {p : Str → Str → Bool} {xs : List Str} (s : xs.Pairwise leS) (nd : xs.Nodup) : ∀ {i : Nat}, (pairsTo p xs i).Pairwise ltR
  | 0 => .nil
  | i + 1 => by
    rw [pairsTo_succ, List.pairwise_append]
    refine ⟨pairsTo_sorted s nd, pairsAt_sorted s nd, fun a ha b hb => ?_⟩
    obtain ⟨j, x, y, lj, hx, _, _, rfl⟩ := pairs_mem.mp ha
    unfold pairsAt at hb
    cases e : xs[i]? with
    | none => rw [e] at hb; cases hb
    | some x' =>
      rw [e] at hb
      obtain ⟨y', _, rfl⟩ := List.mem_map.mp hb
      obtain ⟨h1, e1⟩ := List.getElem?_eq_some_iff.mp hx
      obtain ⟨h2, e2⟩ := List.getElem?_eq_some_iff.mp e
      have q1 := List.pairwise_iff_getElem.mp s j i h1 h2 lj
      have q2 := List.pairwise_iff_getElem.mp nd j i h1 h2 lj
      rw [e1, e2] at q1 q2
      exact ltR_fst q1 q2
theorem subs_nd : ∀ {xs : List Str} {acc : List (List Str)}, acc.Nodup → (∀ l ∈ acc, ∀ x ∈ xs, x ∉ l) → xs.Nodup → (xs.foldl subsS acc).Nodup
  | [], _, h, _, _ => h
  | x :: xs, acc, h, no, nd => by
    obtain ⟨n1, n2⟩ := List.nodup_cons.mp nd
    refine subs_nd (xs := xs) (acc := subsS acc x) ?_ (fun l hl y hy hm => ?_) n2
    · unfold subsS
      refine List.nodup_append.mpr ⟨h, ?_, fun a ha b hb e => ?_⟩
      · refine List.pairwise_map.mpr (h.imp fun ne e => ne (List.append_cancel_right e))
      · obtain ⟨c, _, rfl⟩ := List.mem_map.mp hb
        exact no a ha x (.head _) (by rw [e]; exact List.mem_append.mpr (.inr (.head _)))
    · unfold subsS at hl
      rcases List.mem_append.mp hl with hl | hl
      · exact no l hl y (.tail _ hy) hm
      · obtain ⟨c, hc, rfl⟩ := List.mem_map.mp hl
        rcases List.mem_append.mp hm with hm | hm
        · exact no c hc y (.tail _ hy) hm
        · rw [List.mem_singleton.mp hm] at hy
          exact n1 hy
/-- what the law sorts is what the panel tells -/
theorem pairs_sorted {xs : List Str} {rs ts : List (List Str)} (so : sortedS xs = true) (nd : xs.Nodup) (pr : ∀ r ∈ rs, r.Perm xs) (pt : ∀ t ∈ ts, t.Perm xs) : sortR ((((subs xs).drop 1).filter fun fs => !sameC fs rs ts).filter fun fs => decide (fs.length = 2)) = pairsTo (pairB xs rs ts) xs xs.length := by
  have s2 : (pairsTo (pairB xs rs ts) xs xs.length).Pairwise ltR := pairsTo_sorted (sorted_pw so) nd
  refine sort_uniq ((List.perm_ext_iff_of_nodup ?_ ?_).mpr fun fs => ?_) s2
  · have n1 : (subs xs).Nodup := subs_nd (List.pairwise_singleton _ _) (fun l hl x _ h => by rw [List.mem_singleton.mp hl] at h; cases h) nd
    exact ((n1.sublist (List.drop_sublist 1 _)).sublist List.filter_sublist).sublist List.filter_sublist
  · exact s2.imp fun h e => by
      subst e
      have q := ltR_not h
      rcases leRow_total.total _ _ with z | z <;> rw [q] at z <;> cases z
  · rw [pairs_due nd pr pt, List.mem_filter, List.mem_filter, decide_eq_true_iff, Bool.not_eq_true']
    constructor
    · rintro ⟨⟨h1, h2⟩, h3⟩
      exact ⟨(subs_drop h1).1, h3, h2⟩
    · rintro ⟨h1, h2, h3⟩
      exact ⟨⟨subs_mem h1 (by omega), h3⟩, h2⟩
end G14

set_option maxHeartbeats 8000000
namespace G14
open PySem PySem.Spec PyProof.Rows L2 G1
/-- a panel stands as before where only the purse is changed -/
theorem PanF.but {H H2 : Hp} {C a p : Addr} {c : Nat} {xs : List Str} {rs : List (List Str)} (h : PanF H C a xs rs) (hp : Purse H p c) (b : But p H H2) : PanF H2 C a xs rs := by
  obtain ⟨⟨dx, fs, N, R, cs, h1, h2, h3, h4, h5, h6⟩, ⟨dx2, fs2, f1, f2⟩, le⟩ := h
  have na : a ≠ p := fun q => by
    obtain ⟨zs, hz, _⟩ := hp
    rw [q, hz] at h1
    cases h1
  exact ⟨⟨dx, fs, N, R, cs, b _ _ na h1, h2, h3, b _ _ (ne_purse h4 str_no_int hp) h4, b _ _ (ne_purse h5 ref_no_int hp) h5, h6.but b hp⟩, ⟨dx2, fs2, b _ _ na f1, f2⟩, le⟩
end G14

set_option maxHeartbeats 8000000
namespace G14
open PySem PySem.Spec PyProof.Rows L2 G1
/-! ### panels put side by side and behind -/
def sideR (rs ts : List (List Str)) : List (List Str) := rs.map (· ++ atR ts 0) ++ ts.map (· ++ atR rs 0)
def behR (rs ts : List (List Str)) : List (List Str) := (List.range (max rs.length ts.length)).map fun i => atR rs (min i (rs.length - 1)) ++ atR ts (min i (ts.length - 1))
/-- what is known of two panels that share no name -/
structure Two (xs ys zs : List Str) (rs ts : List (List Str)) : Prop where
  a : Good xs rs
  b : Good ys ts
  ap : ∀ z ∈ ys, z ∉ xs
  pz : zs.Perm (xs ++ ys)
  so : sortedS zs = true
  l7 : zs.length ≤ 7
  r3 : rs.length ≤ 3
  t3 : ts.length ≤ 3
theorem at_mem {rs : List (List Str)} {i : Nat} (h : i < rs.length) : atR rs i ∈ rs ∧ rs[i]? = some (atR rs i) := by
  have e : rs[i]? = some rs[i] := List.getElem?_eq_getElem h
  rw [atR_of e]
  exact ⟨List.getElem_mem h, e⟩
section
variable {xs ys zs : List Str} {rs ts : List (List Str)}
theorem Two.nd (h : Two xs ys zs rs ts) : zs.Nodup := h.pz.nodup_iff.mpr (List.nodup_append.mpr ⟨h.a.nd, h.b.nd, fun a ha b hb e => h.ap b hb (e ▸ ha)⟩)
theorem Two.len (h : Two xs ys zs rs ts) : xs.length + ys.length = zs.length := by rw [h.pz.length_eq, List.length_append]
theorem Two.nm (h : Two xs ys zs rs ts) : ∀ z ∈ zs, Nm z := fun z hz => (List.mem_append.mp (h.pz.mem_iff.mp hz)).elim (h.a.nm z) (h.b.nm z)
theorem side_len : (sideR rs ts).length = rs.length + ts.length := by
  unfold sideR
  rw [List.length_append, List.length_map, List.length_map]
theorem beh_len : (behR rs ts).length = max rs.length ts.length := by
  unfold behR
  rw [List.length_map, List.length_range]
theorem Two.side (h : Two xs ys zs rs ts) : Good zs (sideR rs ts) := by
  have l := h.len
  have l1 := h.a.l1
  have r1 := h.a.r1
  have t1 := h.b.r1
  have r3 := h.r3
  have t3 := h.t3
  refine ⟨h.nm, h.nd, by omega, h.l7, h.so, fun y hy => ?_, by rw [side_len]; omega, by rw [side_len]; omega⟩
  rcases List.mem_append.mp hy with q | q
  · obtain ⟨r, hr, rfl⟩ := List.mem_map.mp q
    exact ((h.a.pr r hr).append (h.b.pr _ (at_mem (by omega)).1)).trans h.pz.symm
  · obtain ⟨t, ht, rfl⟩ := List.mem_map.mp q
    exact (((h.b.pr t ht).append (h.a.pr _ (at_mem (by omega)).1)).trans List.perm_append_comm).trans h.pz.symm
theorem Two.beh (h : Two xs ys zs rs ts) : Good zs (behR rs ts) := by
  have l := h.len
  have l1 := h.a.l1
  have r1 := h.a.r1
  have t1 := h.b.r1
  have r3 := h.r3
  have t3 := h.t3
  refine ⟨h.nm, h.nd, by omega, h.l7, h.so, fun y hy => ?_, by rw [beh_len]; omega, by rw [beh_len]; omega⟩
  obtain ⟨i, hi, rfl⟩ := List.mem_map.mp hy
  exact ((h.a.pr _ (at_mem (by omega)).1).append (h.b.pr _ (at_mem (by omega)).1)).trans h.pz.symm
theorem beh_succ {i : Nat} : ((List.range (i + 1)).map fun i => atR rs (min i (rs.length - 1)) ++ atR ts (min i (ts.length - 1))) = ((List.range i).map fun i => atR rs (min i (rs.length - 1)) ++ atR ts (min i (ts.length - 1))) ++ [atR rs (min i (rs.length - 1)) ++ atR ts (min i (ts.length - 1))] := by
  rw [List.range_succ, List.map_append]
  rfl
end
def spApart (C : Addr) : Sp := fun vs H Q _ => ∃ (a b : Addr) (xs ys : List Str) (rs ts : List (List Str)), vs = [.ref a, .ref b] ∧ PanF H C a xs rs ∧ PanF H C b ys ts ∧ (∀ z ∈ ys, z ∉ xs) ∧ ys.length ≤ 60 ∧
  ∀ H', Same H H' → Q .non H'
def spBoth (C : Addr) (g : List (List Str) → List (List Str) → List (List Str)) : Sp := fun vs H Q _ => ∃ (a b : Addr) (xs ys zs : List Str) (rs ts : List (List Str)), vs = [.ref a, .ref b] ∧ PanF H C a xs rs ∧ PanF H C b ys ts ∧ Two xs ys zs rs ts ∧
  ∀ (PN : Addr) (H' : Hp), Same H H' → H PN = none → PanF H' C PN zs (g rs ts) → Q (.ref PN) H'
section
variable {P : Program} {w : World} {K : PySem.W.Frag} {mg : Str → Option Value} {base : Heap} {C : Addr}
end
end G14

set_option maxHeartbeats 8000000
namespace G14
open PySem PySem.Spec PyProof.Rows L2 G1
/-- new rows, one of each old one -/
theorem lc_make {K : PySem.W.Frag} {R D : Addr} {n : Nat} {vs : List Nat} {as : List Addr} {rs : List (List Str)} {f : List Str → List Str} {te : TE} {H1 : Hp} {σ : L2.St} {Qd : Hp → Prop} (hR : H1 R = some (.lst (as.map V.ref))) (has : RowsAt H1 as rs) (le : rs.length ≤ 60) (hD : H1 D = none)
    (hw : ∀ v, wipe ((wipe σ vs).set n (some v)) vs = wipe σ vs)
    (hs : ∀ (i : Nat) (r : List Str) (c : Addr) (H' : Hp) (Qk : VK), rs[i]? = some r → H' c = some (.lst (r.map V.str)) → Same H1 H' → (∀ G H5, Same H' H5 → H' G = none → H5 G = some (.lst ((f r).map V.str)) → Qk (.ref G) H5) → te ((wipe σ vs).set n (some (.ref c))) H' Qk)
    (hd : ∀ (bs : List Addr) (H' : Hp), H' D = some (.lst (bs.map V.ref)) → RowsAt H' bs (rs.map f) → Same H1 H' → Qd H') : ∃ W : Nat → Nat → Hp → Prop, (∃ m, W 0 m (upd H1 D (.lst []))) ∧ ∀ i m H, W i m H → ((Itl K R).stop i H ∧ Qd H) ∨ ((Itl K R).go i H ∧ ∃ Nx : Hp → Prop, (∀ H', Nx H' → ∃ m', m' < m ∧ W (i + 1) m' H') ∧ ∀ x H', (Itl K R).yld i H x H' → gName n x (wipe σ vs) H' fun σ2 H2 => wipe σ2 vs = wipe σ vs ∧ tYes σ2 H2 fun b H3 => if b = true then te σ2 H3 fun y H4 => ∃ acc, H4 D = some (.lst acc) ∧ acc.length < sizeLine ∧ Nx (upd H4 D (.lst (acc ++ [y]))) else Nx H3) := by
  refine lc_list (K := K) (a := R) (xs := as.map V.ref) (fun i H' => ∃ bs : List Addr, H' D = some (.lst (bs.map V.ref)) ∧ RowsAt H' bs ((rs.take i).map f) ∧ (∀ b ∈ bs, b ≠ D) ∧ Same H1 H') ⟨[], upd_same, .nil, (fun b hb => nomatch hb), sn hD⟩ (fun i H' _ h => by obtain ⟨_, _, _, _, h⟩ := h; exact SqL.of (h _ _ hR)) ?_ ?_
  · rintro i y H' hi ⟨bs, q1, q2, q3, q4⟩
    rw [List.getElem?_map] at hi
    obtain ⟨c, hc, rfl⟩ := Option.map_eq_some_iff.mp hi
    obtain ⟨r, hr1, hr2⟩ := has.at hc
    refine ⟨hw _, hs i r c H' _ hr1 (q4 _ _ hr2) q4 fun G H5 s5 nG hG => ?_⟩
    have nGD : G ≠ D := Ne.symm (ne_of_none q1 nG)
    have tk2 : (rs.take (i + 1)).map f = (rs.take i).map f ++ [f r] := by rw [List.take_succ, hr1, List.map_append]; rfl
    refine ⟨_, s5 _ _ q1, small1000 ?_, bs ++ [G], by rw [upd_same, List.map_append]; rfl, ?_, fun m hm => ?_, fun b o e => ?_⟩
    · rw [List.length_map, q2.len, List.length_map]
      have := List.length_take_le' i rs
      omega
    · rw [tk2]
      exact RowsAt.snoc ((q2.same s5).keep fun x hx o e => by rw [upd_ne (q3 x hx)]; exact e) (by rw [upd_ne nGD]; exact hG)
    · rcases List.mem_append.mp hm with h | h
      · exact q3 m h
      · rw [List.mem_singleton.mp h]
        exact nGD
    · rw [upd_ne (ne_of_none e hD)]
      exact s5 _ _ (q4 _ _ e)
  · rintro H3 ⟨bs, q1, q2, q3, q4⟩
    rw [List.length_map, has.len, List.take_length] at q2
    exact hd bs H3 q1 q2 q4
/-- new rows, one of each number -/
theorem lc_makeR {D : Addr} {n N : Nat} {vs : List Nat} {f : Nat → List Str} {te : TE} {H1 : Hp} {σ : L2.St} {Qd : Hp → Prop} (le : N ≤ 60) (hD : H1 D = none)
    (hw : ∀ v, wipe ((wipe σ vs).set n (some v)) vs = wipe σ vs)
    (hs : ∀ (i : Nat) (H' : Hp) (Qk : VK), i < N → Same H1 H' → (∀ G H5, Same H' H5 → H' G = none → H5 G = some (.lst ((f i).map V.str)) → Qk (.ref G) H5) → te ((wipe σ vs).set n (some (.int ((0 : Int) + i)))) H' Qk)
    (hd : ∀ (bs : List Addr) (H' : Hp), H' D = some (.lst (bs.map V.ref)) → RowsAt H' bs ((List.range N).map f) → Same H1 H' → Qd H') : ∃ W : Nat → Nat → Hp → Prop, (∃ m, W 0 m (upd H1 D (.lst []))) ∧ ∀ i m H, W i m H → ((Itr 0 N).stop i H ∧ Qd H) ∨ ((Itr 0 N).go i H ∧ ∃ Nx : Hp → Prop, (∀ H', Nx H' → ∃ m', m' < m ∧ W (i + 1) m' H') ∧ ∀ x H', (Itr 0 N).yld i H x H' → gName n x (wipe σ vs) H' fun σ2 H2 => wipe σ2 vs = wipe σ vs ∧ tYes σ2 H2 fun b H3 => if b = true then te σ2 H3 fun y H4 => ∃ acc, H4 D = some (.lst acc) ∧ acc.length < sizeLine ∧ Nx (upd H4 D (.lst (acc ++ [y]))) else Nx H3) := by
  refine lc_range (lo := 0) (n := N) (fun i H' => ∃ bs : List Addr, H' D = some (.lst (bs.map V.ref)) ∧ RowsAt H' bs ((List.range i).map f) ∧ (∀ b ∈ bs, b ≠ D) ∧ Same H1 H') ⟨[], upd_same, .nil, (fun b hb => nomatch hb), sn hD⟩ ?_ ?_
  · rintro i H' hi ⟨bs, q1, q2, q3, q4⟩
    refine ⟨hw _, hs i H' _ hi q4 fun G H5 s5 nG hG => ?_⟩
    have nGD : G ≠ D := Ne.symm (ne_of_none q1 nG)
    have tk2 : (List.range (i + 1)).map f = (List.range i).map f ++ [f i] := by rw [List.range_succ, List.map_append]; rfl
    refine ⟨_, s5 _ _ q1, small1000 ?_, bs ++ [G], by rw [upd_same, List.map_append]; rfl, ?_, fun m hm => ?_, fun b o e => ?_⟩
    · rw [List.length_map, q2.len, List.length_map, List.length_range]
      omega
    · rw [tk2]
      exact RowsAt.snoc ((q2.same s5).keep fun x hx o e => by rw [upd_ne (q3 x hx)]; exact e) (by rw [upd_ne nGD]; exact hG)
    · rcases List.mem_append.mp hm with h | h
      · exact q3 m h
      · rw [List.mem_singleton.mp h]
        exact nGD
    · rw [upd_ne (ne_of_none e hD)]
      exact s5 _ _ (q4 _ _ e)
  · rintro H3 ⟨bs, q1, q2, q3, q4⟩
    exact hd bs H3 q1 q2 q4
abbrev rLenQ (K : PySem.W.Frag) : List V → Hp → VK → Prop := fun xs H Q => ∃ p ys, xs = [.ref p] ∧ (SqL K H p ys ∨ SqT K H p ys) ∧ Q (.int ys.length) H
abbrev rMinQ : List V → Hp → VK → Prop := fun xs H Q => ∃ i j, xs = [.int i, .int j] ∧ Q (.int (if j < i then j else i)) H
theorem max_int {a b : Nat} : (if (b : Int) > (a : Int) then (b : Int) else (a : Int)) = ((max a b : Nat) : Int) := by
  by_cases h : (b : Int) > (a : Int)
  · rw [if_pos h]; omega
  · rw [if_neg h]; omega
theorem min_int {i n : Nat} (h : 1 ≤ n) : (if (n : Int) - 1 < (0 : Int) + (i : Int) then (n : Int) - 1 else (0 : Int) + (i : Int)) = ((min i (n - 1) : Nat) : Int) := by
  by_cases q : (n : Int) - 1 < (0 : Int) + (i : Int)
  · rw [if_pos q]; omega
  · rw [if_neg q]; omega
section
variable {P : Program} {w : World} {K : PySem.W.Frag} {mg : Str → Option Value} {base : Heap} {C : Addr}
end
end G14

set_option maxHeartbeats 8000000
namespace G14
open PySem PySem.Spec PyProof.Rows L2 G1
abbrev rCopyL (K : PySem.W.Frag) : List V → Hp → VK → Prop := fun xs H Q => ∃ p ys, xs = [V.ref p] ∧ (SqL K H p ys ∨ SqT K H p ys) ∧ ∀ l, H l = none → Q (.ref l) (upd H l (.lst ys))
def spLPan (C : Addr) : Sp := fun vs H Q _ => ∃ (p n R : Addr) (c : Nat) (xs : List Str) (as : List Addr) (rs : List (List Str)), vs = [.ref p, .ref n, .ref R] ∧ Purse H p c ∧ c ≤ 800000 ∧ H n = some (.lst (xs.map V.str)) ∧ H R = some (.lst (as.map V.ref)) ∧ RowsAt H as rs ∧ Good xs rs ∧
  ∀ (PN : Addr) (H' : Hp), PanF (newH H H') C PN xs rs → H PN = none → Purse H' p (c + 30) → But p H H' → Q (.ref PN) H'
def spShown (C : Addr) : Sp := fun vs H Q _ => ∃ (a : Addr) (xs : List Str) (rs : List (List Str)), vs = [.ref a] ∧ PanF H C a xs rs ∧
  ∀ (D E R : Addr) (cs : List Addr) (H' : Hp), Same H H' → newH H H' D = some (.lst [.ref E, .ref R, .int (rs.length : Int)]) → newH H H' E = some (.lst (xs.map V.str)) → newH H H' R = some (.lst (cs.map V.ref)) → RowsAt (newH H H') cs rs → Q (.ref D) H'
theorem RowsAt.keep2 {H H' : Hp} {as : List Addr} {rs : List (List Str)} (h : RowsAt H as rs) (k : ∀ a ∈ as, ∀ o, H a = some o → H' a = some o) : RowsAt H' as rs := h.keep k
/-- what is new to a later heap is new to an earlier one -/
theorem new_wide {p : Addr} {c : Nat} {H H1 H2 : Hp} (hp : Purse H p c) (b : But p H H1) (hp1 : ∃ o, H1 p = some o) : Same (newH H1 H2) (newH H H2) := fun a o e => by
  unfold newH at e ⊢
  cases q1 : H1 a with
  | some u =>
    rw [q1] at e
    cases e
  | none =>
    rw [q1] at e
    have n : H a = none := by
      cases q : H a with
      | none => rfl
      | some v =>
        by_cases ep : a = p
        · obtain ⟨o1, ho⟩ := hp1
          rw [ep, ho] at q1
          cases q1
        · rw [b a v ep q] at q1
          cases q1
    rw [n]
    exact e
theorem new_mono {H H2 H3 : Hp} (s : Same H2 H3) : Same (newH H H2) (newH H H3) := fun a o e => by
  unfold newH at e ⊢
  cases q : H a with
  | some u =>
    rw [q] at e
    cases e
  | none =>
    rw [q] at e
    exact s _ _ e
section
variable {P : Program} {w : World} {K : PySem.W.Frag} {mg : Str → Option Value} {base : Heap} {C : Addr}
abbrev sLPan : Stmt := top 71
abbrev nLPan : List Str := ["_law_purse_here", "_law_names_here", "_law_rows", "_law_row"]
theorem scLPan : FnScope nLPan ["_law_purse_here", "_law_names_here", "_law_rows"] (defScope sLPan) := ⟨rfl, rfl, rfl, by decide +kernel, rfl, by decide +kernel, by decide +kernel⟩
theorem ok_lpan {f fI : Addr} {fd fdI : FuncData} (F : FnP K "_law_panel" sLPan f fd) (LP : LibP mg) (M : Mk K C fI) (gP : mg "Panel" = some (.ref C)) (FI : FnM K "__init__" "Panel.__init__" sInit fI fdI) (GI : FnOk P w K mg base (L2.CX P w) 4 fI fdI ["self", "entries", "rows"] (spInit K C))
    (DS : Df P w K mg base 3 "_law_shuffled" sShuf ["_law_purse_here", "_law_some"] (spShuf K)) : FnOk P w K mg base CX0 6 f fd ["_law_purse_here", "_law_names_here", "_law_rows"] (spLPan C) := by
  have bI : Binds K fdI ["self", "entries", "rows"] [] := FI.bindsN fun _ _ _ _ _ _ us hl => match us, hl with | [_, _, _], _ => rfl
  refine okN F scLPan (fun vs H Q E h => ?_) (fun cdv A outer s H vs Q E hr h => ?_)
  · obtain ⟨_, _, _, _, _, _, _, rfl, _⟩ := h
    rfl
  · obtain ⟨p, n, R, c, xs, as, rs, rfl, hp, hc, hn, hR, has, gd, k⟩ := h
    have nd := scLPan.nd
    have r3 : Room 3 (A.deeper (envOfC "_law_panel" (defScope sLPan) s.heap.objs.size f cdv)) := hr.mono (by decide)
    have l7 := gd.l6
    have l1 := gd.l1
    have r8 := gd.r8
    refine ⟨_, pss_one (ps_ret (pe_makeS M GI hr (by rfl) gP bI (fun σ => passAt takes_none5 σ) (pa_cons (pe_df DS r3 (by rfl) (pa_cons (pv 0) (pa_cons (pv 1) pa_nil)))
      (pa_cons (pe_lc (own := [("_law_row", 3)]) (g := gName 3) (tt := tYes) (te := tCB (rCopyL K) (tCons (tVar 3) tNil)) rfl nd (pi_list (pv 2))
            (blkOk_by (N := nLPan) (sc := defScope sLPan) (by decide +kernel)) (fun _ _ _ _ _ => pg_name (i := 3) scLPan.nd rfl (Or.inl rfl)) (fun _ _ _ _ _ => pts_nil)
            (fun _ _ _ _ _ => pe_callTy call_list_of (by rfl) LP.list (by decide +kernel) (pa_cons (pv 3) pa_nil))) pa_nil)))), ?_⟩
    have npn : n ≠ p := ne_purse hn str_no_int hp
    have npR : R ≠ p := ne_purse hR ref_no_int hp
    refine ⟨_, rfl, _, rfl, p, n, xs.map V.str, c, rfl, hp, by omega, SqL.of hn, npn, by rw [List.length_map]; omega, fun D ys H1 pm hD nD hp1 b1 => ?_⟩
    obtain ⟨es, rfl, pe⟩ := perm_strs pm
    have le := pe.length_eq
    rw [List.length_map] at hp1
    refine ⟨_, rfl, R, rfl, ⟨_, SqL.of (b1 _ _ npR hR)⟩, fun D2 hD2 => lc_make (f := id) (b1 _ _ npR hR) (has.but b1 hp) (by omega) hD2 (fun _ => rfl) (fun i r c H' Qk hr0 hc s' kk => ?_) fun cs H5 q1 q2 s5 => ?_⟩
    · exact ⟨_, rfl, c, _, rfl, .inl (SqL.of hc), fun l nl => kk l _ (sn nl) nl upd_same⟩
    rw [List.map_id] at q2
    refine make_ok (zs := es) (xs := xs) (s5 _ _ hD) (fun z hz => gd.nm z (pe.mem_iff.mp hz)) (pe.nodup_iff.mpr gd.nd) (by omega) (by omega) pe.symm gd.so q1 q2 gd.pr gd.r1 (by omega) fun PN H6 s6 nPN _ pan fre => ?_
    have s16 := s5.trans s6
    have hp6 := hp1.same s16
    have nw : Same (newH H5 H6) (newH H H6) := new_wide hp (b1.trans (But.same s5)) (by obtain ⟨v, e, _⟩ := hp1.same s5; exact ⟨_, e⟩)
    have pf : PanF (newH H5 H6) C PN xs rs := ⟨pan, fre, by omega⟩
    exact k PN H6 (pf.same nw) (new_back b1 hp1 (s5.free nPN)) (hp6.mono (by omega)) (b1.trans (But.same s16))
end
section
variable {P : Program} {w : World} {K : PySem.W.Frag} {mg : Str → Option Value} {base : Heap} {C : Addr}
abbrev sShown : Stmt := top 72
theorem scShown : FnScope ["_law_panel_here"] ["_law_panel_here"] (defScope sShown) := ⟨rfl, rfl, rfl, by decide +kernel, rfl, by decide +kernel, by decide +kernel⟩
theorem ok_shown {f : Addr} {fd : FuncData} (F : FnP K "_law_shown" sShown f fd) (L : Lib K mg) (N : PanP P w K mg base C) : FnOk P w K mg base CX0 3 f fd ["_law_panel_here"] (spShown C) := by
  refine okN F scShown (fun vs H Q E h => ?_) (fun cdv A outer s H vs Q E hr h => ?_)
  · obtain ⟨_, _, _, rfl, _⟩ := h
    rfl
  · obtain ⟨a, xs, rs, rfl, pa, k⟩ := h
    have r1 : Room 1 (A.deeper (envOfC "_law_shown" (defScope sShown) s.heap.objs.size f cdv)) := hr.mono (by decide)
    obtain ⟨dx, gs, fr1, fr2, fr3, fr4⟩ := id pa.fre
    refine ⟨_, pss_one (ps_ret (pe_lst (pa_cons (pe_mt (pv 0) N.cls N.en r1) (pa_cons (pe_mt (pv 0) N.cls N.rw r1) (pa_cons (pe_callB (call_lenP N hr) (by rfl) L.len PySem.boot_len (pa_cons (pv 0) pa_nil)) pa_nil))))), ?_⟩
    refine ⟨_, rfl, a, dx, gs, rfl, fr1, fr2, a, xs, rs, rfl, pa.at_, fun E H1 s1 nE hE => ?_⟩
    refine ⟨_, rfl, a, dx, gs, rfl, s1 _ _ fr1, fr3, a, xs, rs, rfl, pa.at_.same s1, pa.le, fun R cs H2 s2 nR hR hcs ncs _ => ?_⟩
    have s12 := s1.trans s2
    refine ⟨_, rfl, a, dx, gs, (rs.length : Int), rfl, s12 _ _ fr1, by omega, by have := pa.le; omega, a, xs, rs, rfl, (pa.at_).same s12, rfl, ⟨(show 3 ≤ sizeLine by decide), fun D nD => ?_⟩⟩
    have s3 := sn nD (o := .lst [.ref E, .ref R, .int (rs.length : Int)])
    have nwa : ∀ {Z : Hp} {b : Addr} {o : HO}, H b = none → Z b = some o → newH H Z b = some o := fun n e => by rw [new_at n]; exact e
    exact k D E R cs _ (s12.trans s3) (nwa (s12.free nD) upd_same) (nwa nE ((s2.trans s3) _ _ hE)) (nwa (s1.free nR) (s3 _ _ hR)) ((hcs.same s3).keep2 fun c hc o e => nwa (s1.free (ncs c hc).1) e)
end
end G14

set_option maxHeartbeats 8000000
namespace G14
open PySem PySem.Spec PyProof.Rows L2 G1
/-! ### rows and panels behind one another; lists of data -/
structure RwA (Z : Hp) (R : Addr) (as : List Addr) (rs : List (List Str)) : Prop where
  rw : Z R = some (.lst (as.map V.ref))
  ra : RowsAt Z as rs
theorem RwA.same {Z Z' : Hp} {R : Addr} {as : List Addr} {rs : List (List Str)} (h : RwA Z R as rs) (s : Same Z Z') : RwA Z' R as rs := ⟨s _ _ h.rw, h.ra.same s⟩
theorem RwA.but {Z Z' : Hp} {R p : Addr} {c : Nat} {as : List Addr} {rs : List (List Str)} (h : RwA Z R as rs) (hp : Purse Z p c) (b : But p Z Z') : RwA Z' R as rs := ⟨b _ _ (ne_purse h.rw ref_no_int hp) h.rw, h.ra.but b hp⟩
abbrev Rr := Addr × List Addr × List (List Str)
/-- rows that are right, at these places -/
def Rws (Z : Hp) (xs : List Str) (ws : List Rr) : Prop := ∀ w ∈ ws, RwA Z w.1 w.2.1 w.2.2 ∧ Good xs w.2.2
theorem Rws.same {Z Z' : Hp} {xs : List Str} {ws : List Rr} (h : Rws Z xs ws) (s : Same Z Z') : Rws Z' xs ws := fun w hw => ⟨(h w hw).1.same s, (h w hw).2⟩
theorem Rws.but {Z Z' : Hp} {xs : List Str} {ws : List Rr} {p : Addr} {c : Nat} (h : Rws Z xs ws) (hp : Purse Z p c) (b : But p Z Z') : Rws Z' xs ws := fun w hw => ⟨(h w hw).1.but hp b, (h w hw).2⟩
abbrev adrs (ws : List Rr) : List V := ws.map fun w => V.ref w.1
inductive Pans (C : Addr) (H : Hp) (xs : List Str) : List V → List Rr → Prop
  | nil : Pans C H xs [] []
  | cons {a : Addr} {w : Rr} {vs : List V} {ws : List Rr} : PanF H C a xs w.2.2 → Pans C H xs vs ws → Pans C H xs (.ref a :: vs) (w :: ws)
section
variable {C : Addr} {H H' : Hp} {xs : List Str} {vs : List V} {ws : List Rr}
theorem Pans.same (h : Pans C H xs vs ws) (s : Same H H') : Pans C H' xs vs ws := by
  induction h with
  | nil => exact .nil
  | cons p _ ih => exact .cons (p.same s) ih
theorem Pans.but {p : Addr} {c : Nat} (h : Pans C H xs vs ws) (hp : Purse H p c) (b : But p H H') : Pans C H' xs vs ws := by
  induction h with
  | nil => exact .nil
  | cons q _ ih => exact .cons (q.but hp b) ih
theorem Pans.snoc {w : Rr} {a : Addr} (h : Pans C H xs vs ws) (p : PanF H C a xs w.2.2) : Pans C H xs (vs ++ [.ref a]) (ws ++ [w]) := by
  induction h with
  | nil => exact .cons p .nil
  | cons q _ ih => exact .cons q ih
theorem Pans.len (h : Pans C H xs vs ws) : vs.length = ws.length := by
  induction h with
  | nil => rfl
  | cons _ _ ih => rw [List.length_cons, List.length_cons, ih]
theorem Pans.at (h : Pans C H xs vs ws) : ∀ {i : Nat} {w : Rr}, ws[i]? = some w → ∃ a : Addr, vs[i]? = some (.ref a) ∧ PanF H C a xs w.2.2 := by
  induction h with
  | nil => intro i w e; cases e
  | @cons a w0 vs ws p _ ih =>
    intro i w e
    match i, e with
    | 0, e =>
      cases e
      exact ⟨a, rfl, p⟩
    | i + 1, e => exact ih e
end
theorem del_none {H : Hp} {D : Addr} : delH H D D = none := by
  unfold delH
  simp
theorem but_del {p D : Addr} {H H' : Hp} (b : But p H H') : But p (delH H D) (delH H' D) := fun a o n e => by
  by_cases q : a = D
  · rw [q, del_none] at e
    cases e
  · rw [delH_ne q] at e ⊢
    exact b a o n e
theorem Purse.del {p D : Addr} {H : Hp} {c : Nat} (h : Purse H p c) (n : p ≠ D) : Purse (delH H D) p c := by
  obtain ⟨v, e, l⟩ := h
  exact ⟨v, by rw [delH_ne n]; exact e, l⟩
mutual
theorem dp_same {K : PySem.W.Frag} {H H' : Hp} (s : Same H H') : ∀ {v : V} {d : PyData}, Dp K H v d → Dp K H' v d
  | _, _, .non => .non
  | _, _, .bl b => .bl b
  | _, _, .int i => .int i
  | _, _, .str x => .str x
  | _, _, .lst q h => .lst (s.seq q) (dpAll_same s h)
  | _, _, .tup q h => .tup (by
      rcases q with (e | ⟨o, e⟩) | q
      · exact .inl (.inl (s _ _ e))
      · exact .inl (.inr ⟨o, s _ _ e⟩)
      · exact .inr q) (dpAll_same s h)
theorem dpAll_same {K : PySem.W.Frag} {H H' : Hp} (s : Same H H') : ∀ {vs : List V} {ds : List PyData}, DpAll K H vs ds → DpAll K H' vs ds
  | _, _, .nil => .nil
  | _, _, .cons h t => .cons (dp_same s h) (dpAll_same s t)
end
theorem dpAll_snoc {K : PySem.W.Frag} {H : Hp} {v : V} {d : PyData} : ∀ {vs : List V} {ds : List PyData}, DpAll K H vs ds → Dp K H v d → DpAll K H (vs ++ [v]) (ds ++ [d])
  | _, _, .nil, h => .cons h .nil
  | _, _, .cons q t, h => .cons q (dpAll_snoc t h)
/-- a list of what reads as data, one of each thing of a list -/
theorem lc_data {K : PySem.W.Frag} {a D : Addr} {k : Nat} {sl : List Nat} {us : List V} {te : TE} {f : Nat → PyData} {H1 : Hp} {σ : L2.St} {Qd : Hp → Prop} (ha : SqL K H1 a us) (le : us.length ≤ 60) (hD : H1 D = none)
    (hw : ∀ v, wipe ((wipe σ sl).set k (some v)) sl = wipe σ sl)
    (hs : ∀ (i : Nat) (x : V) (H' : Hp) (Qk : VK), us[i]? = some x → Same H1 H' → (∃ acc, H' D = some (.lst acc)) → (∀ v H5 Z, Same H' H5 → Same Z H5 → Z D = none → Dp K Z v (f i) → Qk v H5) → te ((wipe σ sl).set k (some x)) H' Qk)
    (hd : ∀ H', Same H1 H' → Dp K H' (.ref D) (.list ((List.range us.length).map f)) → Qd H') : ∃ W : Nat → Nat → Hp → Prop, (∃ m, W 0 m (upd H1 D (.lst []))) ∧ ∀ i m H, W i m H → ((Itl K a).stop i H ∧ Qd H) ∨ ((Itl K a).go i H ∧ ∃ Nx : Hp → Prop, (∀ H', Nx H' → ∃ m', m' < m ∧ W (i + 1) m' H') ∧ ∀ x H', (Itl K a).yld i H x H' → gName k x (wipe σ sl) H' fun σ2 H2 => wipe σ2 sl = wipe σ sl ∧ tYes σ2 H2 fun b H3 => if b = true then te σ2 H3 fun y H4 => ∃ acc, H4 D = some (.lst acc) ∧ acc.length < sizeLine ∧ Nx (upd H4 D (.lst (acc ++ [y]))) else Nx H3) := by
  refine lc_list (K := K) (a := a) (xs := us) (fun i H' => ∃ vs : List V, H' D = some (.lst vs) ∧ vs.length = i ∧ DpAll K (delH H' D) vs ((List.range i).map f) ∧ Same H1 (delH H' D)) ⟨[], upd_same, rfl, .nil, same_del (sn hD) hD⟩ (fun i H' _ h => by obtain ⟨_, _, _, _, h⟩ := h; exact (h.trans del_sub).seq ha) ?_ ?_
  · rintro i x H' hi ⟨vs, q1, q2, q3, q4⟩
    have li : i < us.length := (List.getElem?_eq_some_iff.mp hi).1
    refine ⟨hw _, hs i x H' _ hi (q4.trans del_sub) ⟨_, q1⟩ fun v H5 Z s5 sZ nZ dv => ?_⟩
    have sA : Same (delH H' D) (delH H5 D) := same_del (del_sub.trans s5) del_none
    have sB : Same Z (delH H5 D) := same_del sZ nZ
    have sU : Same (delH H5 D) (delH (upd H5 D (.lst (vs ++ [v]))) D) := del_upd
    refine ⟨vs, s5 _ _ q1, small1000 (by omega), vs ++ [v], upd_same, by rw [List.length_append, q2]; rfl, ?_, q4.trans (sA.trans sU)⟩
    rw [List.range_succ, List.map_append]
    exact dpAll_snoc (dpAll_same (sA.trans sU) q3) (dp_same (sB.trans sU) dv)
  · rintro H3 ⟨vs, q1, q2, q3, q4⟩
    exact hd H3 (q4.trans del_sub) (.lst (SqL.of q1) (dpAll_same del_sub q3))
/-- equal data is equal -/
theorem eqv_all {ds : List PyData} (h : ∀ d ∈ ds, PyData.eqv d d = true) : PyData.eqvAll ds ds = true := by
  induction ds with
  | nil => rfl
  | cons d ds ih =>
    show (PyData.eqv d d && PyData.eqvAll ds ds) = true
    rw [h d List.mem_cons_self, ih fun y hy => h y (List.mem_cons_of_mem _ hy)]
    rfl
theorem eqv_list {ds : List PyData} (h : ∀ d ∈ ds, PyData.eqv d d = true) : PyData.eqv (.list ds) (.list ds) = true := eqv_all h
theorem eqv_rsd {rs : List (List Str)} : PyData.eqv (rsd rs) (rsd rs) = true := eqv_list fun d hd => by
  obtain ⟨r, _, rfl⟩ := List.mem_map.mp hd
  rw [eqv_rd]
  exact decide_eq_true rfl
theorem eqv_int {i : Int} : PyData.eqv (.int i) (.int i) = true := by
  show (i == i) = true
  exact beq_self_eq_true i
end G14

set_option maxHeartbeats 8000000
namespace G14
open PySem PySem.Spec PyProof.Rows L2 G1
theorem fn_nat (n : Nat) {m : Nat} (h4 : m ≤ 10) : FineN (.int (m : Int)) n 8 := by
  have d : ∀ i ∈ List.range 11, PyData.canLay0 (.int (i : Int)) = true ∧ PyData.depth (.int (i : Int)) = 0 ∧ PyData.weight (.int (i : Int)) ≤ 8 ∧ PyData.intsShort 13 (.int (i : Int)) = true ∧ PyData.showable (.int (i : Int)) = true ∧ PyData.hasDict (.int (i : Int)) = false := by
    decide +kernel
  obtain ⟨d1, d2, d3, d4, d5, d6⟩ := d m (List.mem_range.mpr (by omega))
  exact ⟨d1, by rw [d2]; exact Nat.zero_le _, d3, d4, d5, d6⟩
def nd' (ns : List Nat) : PyData := .list (ns.map fun (j : Nat) => PyData.int (j : Int))
theorem fine_nats {ns : List Nat} (h : ∀ j ∈ ns, j ≤ 10) (l : ns.length ≤ 10) : FineN (nd' ns) 1 90 := by
  have q : ∀ {ns : List Nat}, (∀ j ∈ ns, j ≤ 10) → FineAll (ns.map fun (j : Nat) => PyData.int (j : Int)) 0 (9 * ns.length) := fun {ns} => by
    induction ns with
    | nil => exact fun _ => .nil _ _
    | cons j ns ih =>
      intro h
      have q := FineAll.cons (fn_nat 0 (h j List.mem_cons_self)) (ih fun y hy => h y (List.mem_cons_of_mem _ hy))
      rw [List.map_cons, List.length_cons, show 9 * (ns.length + 1) = 8 + 1 + 9 * ns.length by omega]
      exact q
  exact (q h).list.mono (Nat.le_refl _) (by omega)
theorem dp_nats {K : PySem.W.Frag} {H : Hp} {a : Addr} {ns : List Nat} (h : H a = some (.lst (natsV ns))) : Dp K H (.ref a) (nd' ns) := by
  refine .lst (SqL.of h) ?_
  unfold natsV
  clear h
  induction ns with
  | nil => exact .nil
  | cons j ns ih => exact .cons (.int _) ih
theorem lot_subl {xs fs : List Str} (so : xs.Pairwise leS) (nd : xs.Nodup) (h : fs.Sublist xs) : lotB xs fs = true := by
  have lt_of : ∀ {a b : Str}, leS a b → a ≠ b → ltB a b = true := fun {a b} h n => by
    refine decide_eq_true ?_
    by_cases q : a.cps.toList < b.cps.toList
    · exact q
    · exact absurd (leS_anti h q) n
  have asc_of : ∀ {l : List Str}, l.Pairwise leS → l.Nodup → ascB l = true := fun {l} => by
    induction l with
    | nil => exact fun _ _ => rfl
    | cons x t ih =>
      cases t with
      | nil => exact fun _ _ => rfl
      | cons y t =>
        intro h n
        obtain ⟨h1, h2⟩ := List.pairwise_cons.mp h
        obtain ⟨n1, n2⟩ := List.pairwise_cons.mp n
        have ih := ih h2 n2
        unfold ascB at ih ⊢
        show (ltB x y && ((y :: t).zip ((y :: t).drop 1)).all fun p => ltB p.1 p.2) = true
        rw [lt_of (h1 y List.mem_cons_self) (n1 y List.mem_cons_self), ih]
        rfl
  unfold lotB
  rw [asc_of (so.sublist h) (nd.sublist h), Bool.and_true]
  exact List.all_eq_true.mpr fun z hz => decide_eq_true (h.subset hz)
theorem cutV_lastone {xs : List V} (h : 1 ≤ xs.length) : cutV xs (some (-1 : Int)) none = xs.drop (xs.length - 1) := by
  have e : HT.sIx xs.length 0 (some (-1 : Int)) = xs.length - 1 := by
    unfold HT.sIx
    simp
    omega
  have e2 : HT.sIx xs.length xs.length none = xs.length := rfl
  unfold cutV
  rw [e, e2]
  exact List.take_of_length_le (by rw [List.length_drop]; exact Nat.le_refl _)
theorem at_last {fs : List Str} (h : 1 ≤ fs.length) : ∃ z ∈ fs, atI (fs.map V.str) (-1) = some (V.str z) := by
  have e : fs[fs.length - 1]? = some (fs[fs.length - 1]'(by omega)) := List.getElem?_eq_getElem _
  refine ⟨_, List.mem_of_getElem? e, ?_⟩
  have e3 : ixN (fs.map V.str).length (-1) = some (fs.length - 1) := by
    unfold ixN
    rw [List.length_map, if_neg (by decide), if_pos (by omega)]
    congr 1
    omega
  show (ixN (fs.map V.str).length (-1)).bind (fun j => (fs.map V.str)[j]?) = _
  rw [e3]
  show (fs.map V.str)[fs.length - 1]? = _
  rw [List.getElem?_map, e]
  rfl
theorem fine_three {xs : List Str} {rs : List (List Str)} (gd : Good xs rs) : FineN (.list [rd xs, rsd rs, .int (rs.length : Int)]) 3 (63 + 1 + (64 * rs.length + 1 + (8 + 1 + 0))) :=
  (FineAll.cons ((fine_row gd.nm gd.l6).mono (by decide) (Nat.le_refl _)) (FineAll.cons gd.fine (FineAll.cons (fn_nat 2 gd.r8) (.nil 2 0)))).list
def spIs (K : PySem.W.Frag) (C : Addr) : Sp := fun vs H Q _ => ∃ (a n R : Addr) (as : List Addr) (xs : List Str) (rs : List (List Str)), vs = [.ref a, .ref n, .ref R] ∧ PanF H C a xs rs ∧ H n = some (.lst (xs.map V.str)) ∧ H R = some (.lst (as.map V.ref)) ∧ RowsAt H as rs ∧ Good xs rs ∧
  ∀ H', Same H H' → Q (.bl true) H'
def scIsIn : Scope := { kind := .function, names := [(Str.ofString ".0", .local), (Str.ofString "_law_row", .local), (Str.ofString "_law_field", .cell)], isGenerator := false, isCoroutine := false }
section
variable {P : Program} {w : World} {K : PySem.W.Frag} {mg : Str → Option Value} {base : Heap} {C : Addr}
end
end G14

set_option maxHeartbeats 8000000
namespace G14
open PySem PySem.Spec PyProof.Rows L2 G1
/-! the seven questions of two panels, each with one answer that reads as data -/
theorem Df.imp {P : Program} {w : World} {K : PySem.W.Frag} {mg : Str → Option Value} {base : Heap} {k : Nat} {x : Str} {st : Stmt} {ps : List Str} {sp sp' : Sp} (D : Df P w K mg base k x st ps sp) (h : ∀ vs H Q E, sp' vs H Q E → sp vs H Q E) : Df P w K mg base k x st ps sp' := by
  obtain ⟨f, fd, F, g, G, b⟩ := D.ex
  exact ⟨⟨f, fd, F, g, G.imp h, b⟩⟩
structure Fine2 (C : Addr) (H : Hp) (a b : Addr) (xs : List Str) (rs ts : List (List Str)) : Prop where
  pa : PanF H C a xs rs
  pb : PanF H C b xs ts
  wa : Rw xs rs
  wb : Rw xs ts
  la : rs.length ≤ 20
  lb : ts.length ≤ 20
  nm : ∀ z ∈ xs, Nm z
  l7 : xs.length ≤ 7
theorem Fine2.same {C : Addr} {H H' : Hp} {a b : Addr} {xs : List Str} {rs ts : List (List Str)} (h : Fine2 C H a b xs rs ts) (s : Same H H') : Fine2 C H' a b xs rs ts := ⟨h.pa.same s, h.pb.same s, h.wa, h.wb, h.la, h.lb, h.nm, h.l7⟩
abbrev Rel : Type := List Str → List (List Str) → List (List Str) → PyData → Prop
def DatSp (K : PySem.W.Frag) (C : Addr) (R : Rel) : Sp := fun vs H Q _ => ∃ (a b : Addr) (xs : List Str) (rs ts : List (List Str)), vs = [.ref a, .ref b] ∧ Fine2 C H a b xs rs ts ∧
  ∀ (v : V) (d : PyData) (H' : Hp), Same H H' → R xs rs ts d → SeqAt.shaped d = true → PyData.eqv d d = true → Dp K H' v d → Q v H'
def One (R : Rel) : Prop := ∀ xs rs ts d e, R xs rs ts d → R xs rs ts e → d = e
def rlWithin : Rel := fun xs rs ts d => d = .bool (withinB xs rs ts)
def rlAlike : Rel := fun xs rs ts d => d = .bool (alikeB xs rs ts)
def rlBeyond : Rel := fun xs rs ts d => d = rd (beyondL xs rs ts)
def rlBad : Rel := fun xs rs ts d => (d = .none ∧ ∀ r ∈ rs, ∀ z ∈ r, okB xs ts r z = true) ∨ ∃ (i j : Nat) (r : List Str) (z : Str), FirstBad xs rs ts i j r z ∧ d = .tuple [.int (i : Int), .str z]
def rlPF : Rel := fun xs rs ts d => (d = .none ∧ withinB xs rs ts = true ∧ withinB xs ts rs = true) ∨ ∃ us, PartOf xs rs ts us ∧ d = rd us
def rlSize : Rel := fun xs rs ts d => (d = .none ∧ ∀ n, ¬ SizeEi xs rs ts n) ∨ ∃ n : Nat, SizeEi xs rs ts n ∧ (∀ m, SizeEi xs rs ts m → n ≤ m) ∧ d = .int (n : Int)
def rlPairs : Rel := fun xs rs ts d => d = rsd (pairsTo (pairB xs rs ts) xs xs.length)
theorem one_within : One rlWithin := fun _ _ _ _ _ h g => h.trans g.symm
theorem one_alike : One rlAlike := fun _ _ _ _ _ h g => h.trans g.symm
theorem one_beyond : One rlBeyond := fun _ _ _ _ _ h g => h.trans g.symm
theorem one_pairs : One rlPairs := fun _ _ _ _ _ h g => h.trans g.symm
theorem one_bad : One rlBad := fun xs rs ts d e h g => by
  have no : ∀ {i j : Nat} {r : List Str} {z : Str}, (∀ r ∈ rs, ∀ z ∈ r, okB xs ts r z = true) → FirstBad xs rs ts i j r z → False := fun h g => by
    have := h _ (List.mem_of_getElem? g.1) _ (List.mem_of_getElem? g.2.1)
    rw [g.2.2.1] at this
    cases this
  rcases h with ⟨rfl, h⟩ | ⟨i, j, r, z, h, rfl⟩ <;> rcases g with ⟨rfl, g⟩ | ⟨i2, j2, r2, z2, g, rfl⟩
  · rfl
  · exact (no h g).elim
  · exact (no g h).elim
  · obtain ⟨rfl, rfl, _⟩ := first_uniq h g
    rfl
theorem part_not {xs : List Str} {rs ts : List (List Str)} {us : List Str} (h : PartOf xs rs ts us) (w1 : withinB xs rs ts = true) (w2 : withinB xs ts rs = true) : False := by
  rcases h with h | ⟨_, h⟩
  · rw [part1_not h] at w1
    cases w1
  · rw [part1_not h] at w2
    cases w2
theorem one_pf : One rlPF := fun xs rs ts d e h g => by
  rcases h with ⟨rfl, w1, w2⟩ | ⟨us, h, rfl⟩ <;> rcases g with ⟨rfl, v1, v2⟩ | ⟨ws, g, rfl⟩
  · rfl
  · exact (part_not g w1 w2).elim
  · exact (part_not h v1 v2).elim
  · rw [part_uniq h g]
theorem one_size : One rlSize := fun xs rs ts d e h g => by
  rcases h with ⟨rfl, h⟩ | ⟨n, h, l, rfl⟩ <;> rcases g with ⟨rfl, g⟩ | ⟨m, g, q, rfl⟩
  · rfl
  · exact (h m g).elim
  · exact (g n h).elim
  · have a := l m g
    have b := q n h
    rw [show n = m by omega]
theorem sub_beyond {xs : List Str} {rs ts : List (List Str)} : (beyondL xs rs ts).Sublist xs := List.filter_sublist
theorem fbL_mem {ps : List Str} {z : Str} {lots : List (List Str)} {xs : List Str} (hz : z ∈ xs) (h : ∀ l ∈ lots, ∀ y ∈ l, y ∈ xs) : ∀ y ∈ fbL ps z lots, y ∈ xs := by
  have q : ∀ (lots : List (List Str)) (fd : List Str), (∀ l ∈ lots, ∀ y ∈ l, y ∈ xs) → (∀ y ∈ fd, y ∈ xs) → ∀ y ∈ lots.foldl (fbS ps) fd, y ∈ xs := fun lots => by
    induction lots with
    | nil => exact fun fd _ hf => hf
    | cons l lots ih =>
      intro fd hl hf
      refine ih _ (fun m hm => hl m (.tail _ hm)) fun y hy => ?_
      unfold fbS at hy
      split at hy
      · exact hf y hy
      · rcases List.mem_append.mp hy with h | h
        · exact hf y h
        · exact hl l (.head _) y (List.mem_filter.mp (List.mem_of_mem_take h)).1
  exact q lots [z] h fun y hy => by rw [List.mem_singleton.mp hy]; exact hz
theorem part_row {xs : List Str} {rs ts : List (List Str)} {us : List Str} (nm : ∀ z ∈ xs, Nm z) (pr : ∀ r ∈ rs, r.Perm xs) (pt : ∀ t ∈ ts, t.Perm xs) (lr : rs.length ≤ 20) (lt : ts.length ≤ 20) (h : PartOf xs rs ts us) : FineN (rd us) 1 (9 * us.length) := by
  have one : ∀ {rs ts : List (List Str)}, (∀ r ∈ rs, r.Perm xs) → ts.length ≤ 20 → Part1 xs rs ts us → ∀ y ∈ us, y ∈ xs := fun pr lt ⟨i, j, r, z, lots, hb, lo, pu, so⟩ y hy => by
    have hz := (pr r (List.mem_of_getElem? hb.1)).mem_iff.mp (List.mem_of_getElem? hb.2.1)
    exact fbL_mem hz (fun l hl y hy => ((lot_len lo).2 l hl).subset hy) y (pu.mem_iff.mp hy)
  have m : ∀ y ∈ us, y ∈ xs := by
    rcases h with h | ⟨_, h⟩
    · exact one pr lt h
    · exact one pt lr h
  exact (fine_strs fun z hz => nm z (m z hz)).list
section
variable {P : Program} {w : World} {K : PySem.W.Frag} {mg : Str → Option Value} {base : Heap} {C : Addr}
theorem dat_within (D : Df P w K mg base 6 "within" sWithin ["one", "other"] (spWithin C)) : Df P w K mg base 6 "within" sWithin ["one", "other"] (DatSp K C rlWithin) := D.imp fun vs H Q E ⟨a, b, xs, rs, ts, e, f, k⟩ =>
  ⟨a, b, xs, rs, ts, e, f.pa, f.pb, f.wa, f.wb, fun H' s => k _ _ H' s rfl (by cases withinB xs rs ts <;> decide +kernel) (by cases withinB xs rs ts <;> decide +kernel) (.bl _)⟩
theorem dat_alike (D : Df P w K mg base 5 "alike" sAlike ["one", "other"] (spAlike C)) : Df P w K mg base 5 "alike" sAlike ["one", "other"] (DatSp K C rlAlike) := D.imp fun vs H Q E ⟨a, b, xs, rs, ts, e, f, k⟩ =>
  ⟨a, b, xs, rs, ts, e, f.pa, f.pb, f.wa, f.wb, fun H' s => k _ _ H' s rfl (by cases alikeB xs rs ts <;> decide +kernel) (by cases alikeB xs rs ts <;> decide +kernel) (.bl _)⟩
theorem eqv_rd1 {r : List Str} : PyData.eqv (rd r) (rd r) = true := by rw [eqv_rd]; exact decide_eq_true rfl
theorem dat_beyond (D : Df P w K mg base 5 "beyond" sBeyond ["one", "other"] (spBeyond C)) : Df P w K mg base 5 "beyond" sBeyond ["one", "other"] (DatSp K C rlBeyond) := D.imp fun vs H Q E ⟨a, b, xs, rs, ts, e, f, k⟩ =>
  ⟨a, b, xs, rs, ts, e, f.pa, f.pb, f.wa, f.wb, fun D H' s nD hD => k _ _ H' s rfl ((fine_row (fun z hz => f.nm z (sub_beyond.subset hz)) (Nat.le_trans sub_beyond.length_le f.l7)).shaped (by decide)) eqv_rd1 (dp_row hD)⟩
theorem dat_pairs (D : Df P w K mg base 4 "parting_pairs" sPPairs ["one", "other"] (spPPairs C)) : Df P w K mg base 4 "parting_pairs" sPPairs ["one", "other"] (DatSp K C rlPairs) := D.imp fun vs H Q E ⟨a, b, xs, rs, ts, e, f, k⟩ =>
  ⟨a, b, xs, rs, ts, e, f.pa, f.pb, f.wa, f.wb, by have := f.l7; omega, fun D cs H' s nD hD fr => k _ _ H' s rfl ((fine_rows fun l hl => by
    obtain ⟨_, x, y, _, hx, hy, _, rfl⟩ := pairs_mem.mp hl
    refine ⟨fun z hz => ?_, (show 2 ≤ 7 by decide)⟩
    rcases List.mem_cons.mp hz with rfl | hz
    · exact f.nm _ (List.mem_of_getElem? hx)
    · rw [List.mem_singleton.mp hz]
      exact f.nm _ (List.mem_of_mem_drop hy)).list.shaped (by decide)) eqv_rsd (dp_rows hD fr.at_)⟩
theorem tup_shp {i : Nat} {z : Str} (hi : i ≤ 20) (hz : Nm z) : SeqAt.shaped (.tuple [.int (i : Int), .str z]) = true := by
  have h1 : FineN (.int (i : Int)) 0 8 := by
    have d : ∀ n ∈ List.range 21, PyData.canLay0 (.int ((n : Nat) : Int)) = true ∧ PyData.depth (.int ((n : Nat) : Int)) = 0 ∧ PyData.weight (.int ((n : Nat) : Int)) ≤ 8 ∧ PyData.intsShort 13 (.int ((n : Nat) : Int)) = true ∧ PyData.showable (.int ((n : Nat) : Int)) = true ∧ PyData.hasDict (.int ((n : Nat) : Int)) = false := by
      decide +kernel
    obtain ⟨d1, d2, d3, d4, d5, d6⟩ := d i (List.mem_range.mpr (by omega))
    exact ⟨d1, by rw [d2]; exact Nat.zero_le _, d3, d4, d5, d6⟩
  have q := FineAll.cons h1 (FineAll.cons (fn_str 0 hz) (.nil 0 0))
  obtain ⟨a1, a2, a3, a4, a5, a6⟩ := q
  have t : FineN (.tuple [.int (i : Int), .str z]) 1 100 := by
    constructor <;> simp only [PyData.canLay0, PyData.depth, PyData.weight, PyData.intsShort, PyData.showable, PyData.hasDict, a1, a4, a5, a6] <;> omega
  exact t.shaped (by decide)
theorem tup_eqv {i : Int} {z : Str} : PyData.eqv (.tuple [.int i, .str z]) (.tuple [.int i, .str z]) = true := by
  show ((i == i) && ((z == z) && true)) = true
  rw [beq_self_eq_true, beq_self_eq_true]
  rfl
theorem dat_bad (D : Df P w K mg base 5 "bad_row" sBad ["one", "other"] (spBad C)) : Df P w K mg base 5 "bad_row" sBad ["one", "other"] (DatSp K C rlBad) := D.imp fun vs H Q E ⟨a, b, xs, rs, ts, e, f, k⟩ =>
  ⟨a, b, xs, rs, ts, e, f.pa, f.pb, f.wa, f.wb, fun H' s ok => k _ .none H' s (.inl ⟨rfl, ok⟩) (by decide +kernel) (by decide +kernel) .non, fun i j r z T H' s hr hz no o1 o2 nT hT =>
    k _ _ H' s (.inr ⟨i, j, r, z, ⟨hr, hz, no, o1, o2⟩, rfl⟩) (tup_shp (by have := (List.getElem?_eq_some_iff.mp hr).1; have := f.la; omega) (f.nm z ((f.wa.pr r (List.mem_of_getElem? hr)).mem_iff.mp (List.mem_of_getElem? hz)))) tup_eqv (.tup (SqT.of hT) (.cons (.int _) (.cons (.str _) .nil)))⟩
theorem dat_pf (D : Df P w K mg base 6 "parting_field" sPF ["one", "other"] (spPF C)) : Df P w K mg base 6 "parting_field" sPF ["one", "other"] (DatSp K C rlPF) := D.imp fun vs H Q E ⟨a, b, xs, rs, ts, e, f, k⟩ =>
  ⟨a, b, xs, rs, ts, e, f.pa, f.pb, f.wa, f.wb, fun H' s w1 w2 => k _ .none H' s (.inl ⟨rfl, w1, w2⟩) (by decide +kernel) (by decide +kernel) .non, fun D us H' s nD po hD => k _ _ H' s (.inr ⟨us, po, rfl⟩) ((part_row f.nm f.wa.pr f.wb.pr f.la f.lb po).shaped (by decide)) eqv_rd1 (dp_row hD)⟩
theorem dat_size (D : Df P w K mg base 6 "parting_size" sPSize ["one", "other"] (spPSize C)) : Df P w K mg base 6 "parting_size" sPSize ["one", "other"] (DatSp K C rlSize) := D.imp fun vs H Q E ⟨a, b, xs, rs, ts, e, f, k⟩ =>
  ⟨a, b, xs, rs, ts, e, f.pa, f.pb, f.wa, f.wb, f.la, f.lb, fun H' s ex no => k _ .none H' s (.inl ⟨rfl, no⟩) (by decide +kernel) (by decide +kernel) .non, fun n H' s ex hn le => k _ _ H' s (.inr ⟨n, hn, le, rfl⟩) (by
    unfold SeqAt.shaped
    simp [PyData.canLay0, PyData.depth]) eqv_int (.int _)⟩
end
end G14

set_option maxHeartbeats 16000000
namespace G14
open PySem PySem.Spec PyProof.Rows L2 G1
def spCalled (K : PySem.W.Frag) (C : Addr) : Sp := fun vs H Q E => ∃ (d : Nat) (u v : V), vs = [.int (d : Int), u, v] ∧ d < 8 ∧ ((∃ (wd : Wd) (x : V), Bad2 K C H u v wd x ∧ Rz K wd.err x H E) ∨
  ∃ (a b : Addr) (xs : List Str) (rs ts : List (List Str)), u = .ref a ∧ v = .ref b ∧ Fine2 C H a b xs rs ts ∧ ∀ z H', Same H H' → Q z H')
theorem Fine2.dat {K : PySem.W.Frag} {C : Addr} {H : Hp} {Q : VK} {E : XK} {a b : Addr} {xs : List Str} {rs ts : List (List Str)} (R : Rel) (f : Fine2 C H a b xs rs ts) (k : ∀ z H', Same H H' → Q z H') : DatSp K C R [.ref a, .ref b] H Q E :=
  ⟨a, b, xs, rs, ts, rfl, f, fun v _ H' s _ _ _ _ => k v H' s⟩
section
variable {P : Program} {w : World} {K : PySem.W.Frag} {mg : Str → Option Value} {base : Heap} {C : Addr}
abbrev sCalled : Stmt := top 74
abbrev nCalled : List Str := ["_law_way", "_law_one", "_law_other"]
theorem scCalled : FnScope nCalled nCalled (defScope sCalled) := ⟨rfl, rfl, rfl, by decide +kernel, rfl, by decide +kernel, by decide +kernel⟩
theorem ok_called {f : Addr} {fd : FuncData} (F : FnP K "_law_called" sCalled f fd) (D0 : Df P w K mg base 5 "alike" sAlike ["one", "other"] (DatSp K C rlAlike)) (X0 : DfX P w K mg base 5 "alike" sAlike ["one", "other"] (spBadP K C)) (D1 : Df P w K mg base 5 "bad_row" sBad ["one", "other"] (DatSp K C rlBad)) (X1 : DfX P w K mg base 5 "bad_row" sBad ["one", "other"] (spBadP K C)) (D2 : Df P w K mg base 5 "beyond" sBeyond ["one", "other"] (DatSp K C rlBeyond)) (X2 : DfX P w K mg base 5 "beyond" sBeyond ["one", "other"] (spBadP K C)) (D3 : Df P w K mg base 6 "parting_field" sPF ["one", "other"] (DatSp K C rlPF)) (X3 : DfX P w K mg base 5 "parting_field" sPF ["one", "other"] (spBadP K C)) (D4 : Df P w K mg base 4 "parting_pairs" sPPairs ["one", "other"] (DatSp K C rlPairs)) (X4 : DfX P w K mg base 5 "parting_pairs" sPPairs ["one", "other"] (spBadP K C)) (D5 : Df P w K mg base 6 "parting_size" sPSize ["one", "other"] (DatSp K C rlSize)) (X5 : DfX P w K mg base 5 "parting_size" sPSize ["one", "other"] (spBadP K C)) (D6 : Df P w K mg base 6 "within" sWithin ["one", "other"] (DatSp K C rlWithin)) (X6 : DfX P w K mg base 6 "within" sWithin ["one", "other"] (spBadP K C)) (D7 : Df P w K mg base 6 "is_parting_field" sIPF ["one", "other", "value"] (spIPF K C)) (X7 : DfX P w K mg base 5 "is_parting_field" sIPF ["one", "other", "value"] (spBadP3 K C)) : FnOk P w K mg base (L2.CX P w) 7 f fd ["_law_way", "_law_one", "_law_other"] (spCalled K C) := by
  refine F.ok scCalled (fun vs H Q E h => ?_) (fun cdv A outer s H vs Q E hr h => ?_)
  · obtain ⟨_, _, _, rfl, _⟩ := h
    rfl
  · obtain ⟨d, u, v, rfl, hd, h⟩ := h
    have tk : Takes (cxOf (L2.CX P w) P w K mg base nCalled "_law_called" (defScope sCalled) f cdv A outer s H E) (fun cls d _ H' => E cls d H') := takes_of rfl rfl rfl rfl
    have r4 : Room 4 (A.deeper (envOfC "_law_called" (defScope sCalled) s.heap.objs.size f cdv)) := hr.mono (by decide)
    have r5 : Room 5 (A.deeper (envOfC "_law_called" (defScope sCalled) s.heap.objs.size f cdv)) := hr.mono (by decide)
    have r6 : Room 6 (A.deeper (envOfC "_law_called" (defScope sCalled) s.heap.objs.size f cdv)) := hr.mono (by decide)
    obtain ⟨f0, fd0, F0, g0, G0, b0⟩ := D0.ex
    obtain ⟨h0, hd0, F0x, g0x, G0x, b0x⟩ := X0.ex
    obtain ⟨f1, fd1, F1, g1, G1, b1⟩ := D1.ex
    obtain ⟨h1, hd1, F1x, g1x, G1x, b1x⟩ := X1.ex
    obtain ⟨f2, fd2, F2, g2, G2, b2⟩ := D2.ex
    obtain ⟨h2, hd2, F2x, g2x, G2x, b2x⟩ := X2.ex
    obtain ⟨f3, fd3, F3, g3, G3, b3⟩ := D3.ex
    obtain ⟨h3, hd3, F3x, g3x, G3x, b3x⟩ := X3.ex
    obtain ⟨f4, fd4, F4, g4, G4, b4⟩ := D4.ex
    obtain ⟨h4, hd4, F4x, g4x, G4x, b4x⟩ := X4.ex
    obtain ⟨f5, fd5, F5, g5, G5, b5⟩ := D5.ex
    obtain ⟨h5, hd5, F5x, g5x, G5x, b5x⟩ := X5.ex
    obtain ⟨f6, fd6, F6, g6, G6, b6⟩ := D6.ex
    obtain ⟨h6, hd6, F6x, g6x, G6x, b6x⟩ := X6.ex
    obtain ⟨f7, fd7, F7, g7, G7, b7⟩ := D7.ex
    obtain ⟨h7, hd7, F7x, g7x, G7x, b7x⟩ := X7.ex
    match d, hd with
    | 0, _ =>
      rcases h with ⟨wd, x, h, k⟩ | ⟨a, b, xs, rs, ts, rfl, rfl, fi, k⟩
      · refine ⟨_, pss_cons (ps_if (pt_cmpR op_eq (pv 0) pe_int (nomark _)) (pss_one ps_never) pss_nil) (pss_one (ps_ret (pe_callX (f := h0) (E := WE fun cls d _ H' => E cls d H') G0x r5 F0x.kp b0x (fun σ => passAt tk σ) (pe_ix ix_list (pe_lst (pa_cons (pe_glob (v := .ref h0) (by rfl) g0x rfl) (pa_cons (pe_glob (v := .ref h1) (by rfl) g1x rfl) (pa_cons (pe_glob (v := .ref h2) (by rfl) g2x rfl) (pa_cons (pe_glob (v := .ref h3) (by rfl) g3x rfl) (pa_cons (pe_glob (v := .ref h4) (by rfl) g4x rfl) (pa_cons (pe_glob (v := .ref h5) (by rfl) g5x rfl) (pa_cons (pe_glob (v := .ref h6) (by rfl) g6x rfl) pa_nil)))))))) (pv 0) (fun _ _ => rfl)) (pa_cons (pv 1) (pa_cons (pv 2) pa_nil))))), ?_⟩
        refine ⟨_, rfl, rfl, _, rfl, ite2 (fun q => absurd (of_decide_eq_true q) (by decide +kernel)) fun _ => ?_⟩
        refine ⟨(show 7 ≤ sizeLine by decide), fun l nl => ?_⟩
        have sl := sn nl (o := .lst [.ref h0, .ref h1, .ref h2, .ref h3, .ref h4, .ref h5, .ref h6])
        refine ⟨_, rfl, l, _, _, .ref h0, rfl, rfl, SqL.of upd_same, (show atI _ ((0 : Nat) : Int) = _ from atI_nat rfl), rfl, ?_⟩
        refine ⟨_, rfl, _, rfl, ?_⟩
        exact ⟨u, v, wd, x, rfl, h.same sl, k.same sl⟩
      · refine ⟨_, pss_cons (ps_if (pt_cmpR op_eq (pv 0) pe_int (nomark _)) (pss_one ps_never) pss_nil) (pss_one (ps_ret (pe_callX (f := f0) (E := fun _ => E0) G0 r5 F0.kp b0 (fun _ _ _ _ _ _ _ c => c.elim) (pe_ix ix_list (pe_lst (pa_cons (pe_glob (v := .ref f0) (by rfl) g0 rfl) (pa_cons (pe_glob (v := .ref f1) (by rfl) g1 rfl) (pa_cons (pe_glob (v := .ref f2) (by rfl) g2 rfl) (pa_cons (pe_glob (v := .ref f3) (by rfl) g3 rfl) (pa_cons (pe_glob (v := .ref f4) (by rfl) g4 rfl) (pa_cons (pe_glob (v := .ref f5) (by rfl) g5 rfl) (pa_cons (pe_glob (v := .ref f6) (by rfl) g6 rfl) pa_nil)))))))) (pv 0) (fun _ _ => rfl)) (pa_cons (pv 1) (pa_cons (pv 2) pa_nil))))), ?_⟩
        refine ⟨_, rfl, rfl, _, rfl, ite2 (fun q => absurd (of_decide_eq_true q) (by decide +kernel)) fun _ => ?_⟩
        refine ⟨(show 7 ≤ sizeLine by decide), fun l nl => ?_⟩
        have sl := sn nl (o := .lst [.ref f0, .ref f1, .ref f2, .ref f3, .ref f4, .ref f5, .ref f6])
        refine ⟨_, rfl, l, _, _, .ref f0, rfl, rfl, SqL.of upd_same, (show atI _ ((0 : Nat) : Int) = _ from atI_nat rfl), rfl, ?_⟩
        refine ⟨_, rfl, _, rfl, ?_⟩
        exact (fi.same sl).dat (E := E0) rlAlike fun z H' s => k z H' (sl.trans s)
    | 1, _ =>
      rcases h with ⟨wd, x, h, k⟩ | ⟨a, b, xs, rs, ts, rfl, rfl, fi, k⟩
      · refine ⟨_, pss_cons (ps_if (pt_cmpR op_eq (pv 0) pe_int (nomark _)) (pss_one ps_never) pss_nil) (pss_one (ps_ret (pe_callX (f := h1) (E := WE fun cls d _ H' => E cls d H') G1x r5 F1x.kp b1x (fun σ => passAt tk σ) (pe_ix ix_list (pe_lst (pa_cons (pe_glob (v := .ref h0) (by rfl) g0x rfl) (pa_cons (pe_glob (v := .ref h1) (by rfl) g1x rfl) (pa_cons (pe_glob (v := .ref h2) (by rfl) g2x rfl) (pa_cons (pe_glob (v := .ref h3) (by rfl) g3x rfl) (pa_cons (pe_glob (v := .ref h4) (by rfl) g4x rfl) (pa_cons (pe_glob (v := .ref h5) (by rfl) g5x rfl) (pa_cons (pe_glob (v := .ref h6) (by rfl) g6x rfl) pa_nil)))))))) (pv 0) (fun _ _ => rfl)) (pa_cons (pv 1) (pa_cons (pv 2) pa_nil))))), ?_⟩
        refine ⟨_, rfl, rfl, _, rfl, ite2 (fun q => absurd (of_decide_eq_true q) (by decide +kernel)) fun _ => ?_⟩
        refine ⟨(show 7 ≤ sizeLine by decide), fun l nl => ?_⟩
        have sl := sn nl (o := .lst [.ref h0, .ref h1, .ref h2, .ref h3, .ref h4, .ref h5, .ref h6])
        refine ⟨_, rfl, l, _, _, .ref h1, rfl, rfl, SqL.of upd_same, (show atI _ ((1 : Nat) : Int) = _ from atI_nat rfl), rfl, ?_⟩
        refine ⟨_, rfl, _, rfl, ?_⟩
        exact ⟨u, v, wd, x, rfl, h.same sl, k.same sl⟩
      · refine ⟨_, pss_cons (ps_if (pt_cmpR op_eq (pv 0) pe_int (nomark _)) (pss_one ps_never) pss_nil) (pss_one (ps_ret (pe_callX (f := f1) (E := fun _ => E0) G1 r5 F1.kp b1 (fun _ _ _ _ _ _ _ c => c.elim) (pe_ix ix_list (pe_lst (pa_cons (pe_glob (v := .ref f0) (by rfl) g0 rfl) (pa_cons (pe_glob (v := .ref f1) (by rfl) g1 rfl) (pa_cons (pe_glob (v := .ref f2) (by rfl) g2 rfl) (pa_cons (pe_glob (v := .ref f3) (by rfl) g3 rfl) (pa_cons (pe_glob (v := .ref f4) (by rfl) g4 rfl) (pa_cons (pe_glob (v := .ref f5) (by rfl) g5 rfl) (pa_cons (pe_glob (v := .ref f6) (by rfl) g6 rfl) pa_nil)))))))) (pv 0) (fun _ _ => rfl)) (pa_cons (pv 1) (pa_cons (pv 2) pa_nil))))), ?_⟩
        refine ⟨_, rfl, rfl, _, rfl, ite2 (fun q => absurd (of_decide_eq_true q) (by decide +kernel)) fun _ => ?_⟩
        refine ⟨(show 7 ≤ sizeLine by decide), fun l nl => ?_⟩
        have sl := sn nl (o := .lst [.ref f0, .ref f1, .ref f2, .ref f3, .ref f4, .ref f5, .ref f6])
        refine ⟨_, rfl, l, _, _, .ref f1, rfl, rfl, SqL.of upd_same, (show atI _ ((1 : Nat) : Int) = _ from atI_nat rfl), rfl, ?_⟩
        refine ⟨_, rfl, _, rfl, ?_⟩
        exact (fi.same sl).dat (E := E0) rlBad fun z H' s => k z H' (sl.trans s)
    | 2, _ =>
      rcases h with ⟨wd, x, h, k⟩ | ⟨a, b, xs, rs, ts, rfl, rfl, fi, k⟩
      · refine ⟨_, pss_cons (ps_if (pt_cmpR op_eq (pv 0) pe_int (nomark _)) (pss_one ps_never) pss_nil) (pss_one (ps_ret (pe_callX (f := h2) (E := WE fun cls d _ H' => E cls d H') G2x r5 F2x.kp b2x (fun σ => passAt tk σ) (pe_ix ix_list (pe_lst (pa_cons (pe_glob (v := .ref h0) (by rfl) g0x rfl) (pa_cons (pe_glob (v := .ref h1) (by rfl) g1x rfl) (pa_cons (pe_glob (v := .ref h2) (by rfl) g2x rfl) (pa_cons (pe_glob (v := .ref h3) (by rfl) g3x rfl) (pa_cons (pe_glob (v := .ref h4) (by rfl) g4x rfl) (pa_cons (pe_glob (v := .ref h5) (by rfl) g5x rfl) (pa_cons (pe_glob (v := .ref h6) (by rfl) g6x rfl) pa_nil)))))))) (pv 0) (fun _ _ => rfl)) (pa_cons (pv 1) (pa_cons (pv 2) pa_nil))))), ?_⟩
        refine ⟨_, rfl, rfl, _, rfl, ite2 (fun q => absurd (of_decide_eq_true q) (by decide +kernel)) fun _ => ?_⟩
        refine ⟨(show 7 ≤ sizeLine by decide), fun l nl => ?_⟩
        have sl := sn nl (o := .lst [.ref h0, .ref h1, .ref h2, .ref h3, .ref h4, .ref h5, .ref h6])
        refine ⟨_, rfl, l, _, _, .ref h2, rfl, rfl, SqL.of upd_same, (show atI _ ((2 : Nat) : Int) = _ from atI_nat rfl), rfl, ?_⟩
        refine ⟨_, rfl, _, rfl, ?_⟩
        exact ⟨u, v, wd, x, rfl, h.same sl, k.same sl⟩
      · refine ⟨_, pss_cons (ps_if (pt_cmpR op_eq (pv 0) pe_int (nomark _)) (pss_one ps_never) pss_nil) (pss_one (ps_ret (pe_callX (f := f2) (E := fun _ => E0) G2 r5 F2.kp b2 (fun _ _ _ _ _ _ _ c => c.elim) (pe_ix ix_list (pe_lst (pa_cons (pe_glob (v := .ref f0) (by rfl) g0 rfl) (pa_cons (pe_glob (v := .ref f1) (by rfl) g1 rfl) (pa_cons (pe_glob (v := .ref f2) (by rfl) g2 rfl) (pa_cons (pe_glob (v := .ref f3) (by rfl) g3 rfl) (pa_cons (pe_glob (v := .ref f4) (by rfl) g4 rfl) (pa_cons (pe_glob (v := .ref f5) (by rfl) g5 rfl) (pa_cons (pe_glob (v := .ref f6) (by rfl) g6 rfl) pa_nil)))))))) (pv 0) (fun _ _ => rfl)) (pa_cons (pv 1) (pa_cons (pv 2) pa_nil))))), ?_⟩
        refine ⟨_, rfl, rfl, _, rfl, ite2 (fun q => absurd (of_decide_eq_true q) (by decide +kernel)) fun _ => ?_⟩
        refine ⟨(show 7 ≤ sizeLine by decide), fun l nl => ?_⟩
        have sl := sn nl (o := .lst [.ref f0, .ref f1, .ref f2, .ref f3, .ref f4, .ref f5, .ref f6])
        refine ⟨_, rfl, l, _, _, .ref f2, rfl, rfl, SqL.of upd_same, (show atI _ ((2 : Nat) : Int) = _ from atI_nat rfl), rfl, ?_⟩
        refine ⟨_, rfl, _, rfl, ?_⟩
        exact (fi.same sl).dat (E := E0) rlBeyond fun z H' s => k z H' (sl.trans s)
    | 3, _ =>
      rcases h with ⟨wd, x, h, k⟩ | ⟨a, b, xs, rs, ts, rfl, rfl, fi, k⟩
      · refine ⟨_, pss_cons (ps_if (pt_cmpR op_eq (pv 0) pe_int (nomark _)) (pss_one ps_never) pss_nil) (pss_one (ps_ret (pe_callX (f := h3) (E := WE fun cls d _ H' => E cls d H') G3x r5 F3x.kp b3x (fun σ => passAt tk σ) (pe_ix ix_list (pe_lst (pa_cons (pe_glob (v := .ref h0) (by rfl) g0x rfl) (pa_cons (pe_glob (v := .ref h1) (by rfl) g1x rfl) (pa_cons (pe_glob (v := .ref h2) (by rfl) g2x rfl) (pa_cons (pe_glob (v := .ref h3) (by rfl) g3x rfl) (pa_cons (pe_glob (v := .ref h4) (by rfl) g4x rfl) (pa_cons (pe_glob (v := .ref h5) (by rfl) g5x rfl) (pa_cons (pe_glob (v := .ref h6) (by rfl) g6x rfl) pa_nil)))))))) (pv 0) (fun _ _ => rfl)) (pa_cons (pv 1) (pa_cons (pv 2) pa_nil))))), ?_⟩
        refine ⟨_, rfl, rfl, _, rfl, ite2 (fun q => absurd (of_decide_eq_true q) (by decide +kernel)) fun _ => ?_⟩
        refine ⟨(show 7 ≤ sizeLine by decide), fun l nl => ?_⟩
        have sl := sn nl (o := .lst [.ref h0, .ref h1, .ref h2, .ref h3, .ref h4, .ref h5, .ref h6])
        refine ⟨_, rfl, l, _, _, .ref h3, rfl, rfl, SqL.of upd_same, (show atI _ ((3 : Nat) : Int) = _ from atI_nat rfl), rfl, ?_⟩
        refine ⟨_, rfl, _, rfl, ?_⟩
        exact ⟨u, v, wd, x, rfl, h.same sl, k.same sl⟩
      · refine ⟨_, pss_cons (ps_if (pt_cmpR op_eq (pv 0) pe_int (nomark _)) (pss_one ps_never) pss_nil) (pss_one (ps_ret (pe_callX (f := f3) (E := fun _ => E0) G3 r6 F3.kp b3 (fun _ _ _ _ _ _ _ c => c.elim) (pe_ix ix_list (pe_lst (pa_cons (pe_glob (v := .ref f0) (by rfl) g0 rfl) (pa_cons (pe_glob (v := .ref f1) (by rfl) g1 rfl) (pa_cons (pe_glob (v := .ref f2) (by rfl) g2 rfl) (pa_cons (pe_glob (v := .ref f3) (by rfl) g3 rfl) (pa_cons (pe_glob (v := .ref f4) (by rfl) g4 rfl) (pa_cons (pe_glob (v := .ref f5) (by rfl) g5 rfl) (pa_cons (pe_glob (v := .ref f6) (by rfl) g6 rfl) pa_nil)))))))) (pv 0) (fun _ _ => rfl)) (pa_cons (pv 1) (pa_cons (pv 2) pa_nil))))), ?_⟩
        refine ⟨_, rfl, rfl, _, rfl, ite2 (fun q => absurd (of_decide_eq_true q) (by decide +kernel)) fun _ => ?_⟩
        refine ⟨(show 7 ≤ sizeLine by decide), fun l nl => ?_⟩
        have sl := sn nl (o := .lst [.ref f0, .ref f1, .ref f2, .ref f3, .ref f4, .ref f5, .ref f6])
        refine ⟨_, rfl, l, _, _, .ref f3, rfl, rfl, SqL.of upd_same, (show atI _ ((3 : Nat) : Int) = _ from atI_nat rfl), rfl, ?_⟩
        refine ⟨_, rfl, _, rfl, ?_⟩
        exact (fi.same sl).dat (E := E0) rlPF fun z H' s => k z H' (sl.trans s)
    | 4, _ =>
      rcases h with ⟨wd, x, h, k⟩ | ⟨a, b, xs, rs, ts, rfl, rfl, fi, k⟩
      · refine ⟨_, pss_cons (ps_if (pt_cmpR op_eq (pv 0) pe_int (nomark _)) (pss_one ps_never) pss_nil) (pss_one (ps_ret (pe_callX (f := h4) (E := WE fun cls d _ H' => E cls d H') G4x r5 F4x.kp b4x (fun σ => passAt tk σ) (pe_ix ix_list (pe_lst (pa_cons (pe_glob (v := .ref h0) (by rfl) g0x rfl) (pa_cons (pe_glob (v := .ref h1) (by rfl) g1x rfl) (pa_cons (pe_glob (v := .ref h2) (by rfl) g2x rfl) (pa_cons (pe_glob (v := .ref h3) (by rfl) g3x rfl) (pa_cons (pe_glob (v := .ref h4) (by rfl) g4x rfl) (pa_cons (pe_glob (v := .ref h5) (by rfl) g5x rfl) (pa_cons (pe_glob (v := .ref h6) (by rfl) g6x rfl) pa_nil)))))))) (pv 0) (fun _ _ => rfl)) (pa_cons (pv 1) (pa_cons (pv 2) pa_nil))))), ?_⟩
        refine ⟨_, rfl, rfl, _, rfl, ite2 (fun q => absurd (of_decide_eq_true q) (by decide +kernel)) fun _ => ?_⟩
        refine ⟨(show 7 ≤ sizeLine by decide), fun l nl => ?_⟩
        have sl := sn nl (o := .lst [.ref h0, .ref h1, .ref h2, .ref h3, .ref h4, .ref h5, .ref h6])
        refine ⟨_, rfl, l, _, _, .ref h4, rfl, rfl, SqL.of upd_same, (show atI _ ((4 : Nat) : Int) = _ from atI_nat rfl), rfl, ?_⟩
        refine ⟨_, rfl, _, rfl, ?_⟩
        exact ⟨u, v, wd, x, rfl, h.same sl, k.same sl⟩
      · refine ⟨_, pss_cons (ps_if (pt_cmpR op_eq (pv 0) pe_int (nomark _)) (pss_one ps_never) pss_nil) (pss_one (ps_ret (pe_callX (f := f4) (E := fun _ => E0) G4 r4 F4.kp b4 (fun _ _ _ _ _ _ _ c => c.elim) (pe_ix ix_list (pe_lst (pa_cons (pe_glob (v := .ref f0) (by rfl) g0 rfl) (pa_cons (pe_glob (v := .ref f1) (by rfl) g1 rfl) (pa_cons (pe_glob (v := .ref f2) (by rfl) g2 rfl) (pa_cons (pe_glob (v := .ref f3) (by rfl) g3 rfl) (pa_cons (pe_glob (v := .ref f4) (by rfl) g4 rfl) (pa_cons (pe_glob (v := .ref f5) (by rfl) g5 rfl) (pa_cons (pe_glob (v := .ref f6) (by rfl) g6 rfl) pa_nil)))))))) (pv 0) (fun _ _ => rfl)) (pa_cons (pv 1) (pa_cons (pv 2) pa_nil))))), ?_⟩
        refine ⟨_, rfl, rfl, _, rfl, ite2 (fun q => absurd (of_decide_eq_true q) (by decide +kernel)) fun _ => ?_⟩
        refine ⟨(show 7 ≤ sizeLine by decide), fun l nl => ?_⟩
        have sl := sn nl (o := .lst [.ref f0, .ref f1, .ref f2, .ref f3, .ref f4, .ref f5, .ref f6])
        refine ⟨_, rfl, l, _, _, .ref f4, rfl, rfl, SqL.of upd_same, (show atI _ ((4 : Nat) : Int) = _ from atI_nat rfl), rfl, ?_⟩
        refine ⟨_, rfl, _, rfl, ?_⟩
        exact (fi.same sl).dat (E := E0) rlPairs fun z H' s => k z H' (sl.trans s)
    | 5, _ =>
      rcases h with ⟨wd, x, h, k⟩ | ⟨a, b, xs, rs, ts, rfl, rfl, fi, k⟩
      · refine ⟨_, pss_cons (ps_if (pt_cmpR op_eq (pv 0) pe_int (nomark _)) (pss_one ps_never) pss_nil) (pss_one (ps_ret (pe_callX (f := h5) (E := WE fun cls d _ H' => E cls d H') G5x r5 F5x.kp b5x (fun σ => passAt tk σ) (pe_ix ix_list (pe_lst (pa_cons (pe_glob (v := .ref h0) (by rfl) g0x rfl) (pa_cons (pe_glob (v := .ref h1) (by rfl) g1x rfl) (pa_cons (pe_glob (v := .ref h2) (by rfl) g2x rfl) (pa_cons (pe_glob (v := .ref h3) (by rfl) g3x rfl) (pa_cons (pe_glob (v := .ref h4) (by rfl) g4x rfl) (pa_cons (pe_glob (v := .ref h5) (by rfl) g5x rfl) (pa_cons (pe_glob (v := .ref h6) (by rfl) g6x rfl) pa_nil)))))))) (pv 0) (fun _ _ => rfl)) (pa_cons (pv 1) (pa_cons (pv 2) pa_nil))))), ?_⟩
        refine ⟨_, rfl, rfl, _, rfl, ite2 (fun q => absurd (of_decide_eq_true q) (by decide +kernel)) fun _ => ?_⟩
        refine ⟨(show 7 ≤ sizeLine by decide), fun l nl => ?_⟩
        have sl := sn nl (o := .lst [.ref h0, .ref h1, .ref h2, .ref h3, .ref h4, .ref h5, .ref h6])
        refine ⟨_, rfl, l, _, _, .ref h5, rfl, rfl, SqL.of upd_same, (show atI _ ((5 : Nat) : Int) = _ from atI_nat rfl), rfl, ?_⟩
        refine ⟨_, rfl, _, rfl, ?_⟩
        exact ⟨u, v, wd, x, rfl, h.same sl, k.same sl⟩
      · refine ⟨_, pss_cons (ps_if (pt_cmpR op_eq (pv 0) pe_int (nomark _)) (pss_one ps_never) pss_nil) (pss_one (ps_ret (pe_callX (f := f5) (E := fun _ => E0) G5 r6 F5.kp b5 (fun _ _ _ _ _ _ _ c => c.elim) (pe_ix ix_list (pe_lst (pa_cons (pe_glob (v := .ref f0) (by rfl) g0 rfl) (pa_cons (pe_glob (v := .ref f1) (by rfl) g1 rfl) (pa_cons (pe_glob (v := .ref f2) (by rfl) g2 rfl) (pa_cons (pe_glob (v := .ref f3) (by rfl) g3 rfl) (pa_cons (pe_glob (v := .ref f4) (by rfl) g4 rfl) (pa_cons (pe_glob (v := .ref f5) (by rfl) g5 rfl) (pa_cons (pe_glob (v := .ref f6) (by rfl) g6 rfl) pa_nil)))))))) (pv 0) (fun _ _ => rfl)) (pa_cons (pv 1) (pa_cons (pv 2) pa_nil))))), ?_⟩
        refine ⟨_, rfl, rfl, _, rfl, ite2 (fun q => absurd (of_decide_eq_true q) (by decide +kernel)) fun _ => ?_⟩
        refine ⟨(show 7 ≤ sizeLine by decide), fun l nl => ?_⟩
        have sl := sn nl (o := .lst [.ref f0, .ref f1, .ref f2, .ref f3, .ref f4, .ref f5, .ref f6])
        refine ⟨_, rfl, l, _, _, .ref f5, rfl, rfl, SqL.of upd_same, (show atI _ ((5 : Nat) : Int) = _ from atI_nat rfl), rfl, ?_⟩
        refine ⟨_, rfl, _, rfl, ?_⟩
        exact (fi.same sl).dat (E := E0) rlSize fun z H' s => k z H' (sl.trans s)
    | 6, _ =>
      rcases h with ⟨wd, x, h, k⟩ | ⟨a, b, xs, rs, ts, rfl, rfl, fi, k⟩
      · refine ⟨_, pss_cons (ps_if (pt_cmpR op_eq (pv 0) pe_int (nomark _)) (pss_one ps_never) pss_nil) (pss_one (ps_ret (pe_callX (f := h6) (E := WE fun cls d _ H' => E cls d H') G6x r6 F6x.kp b6x (fun σ => passAt tk σ) (pe_ix ix_list (pe_lst (pa_cons (pe_glob (v := .ref h0) (by rfl) g0x rfl) (pa_cons (pe_glob (v := .ref h1) (by rfl) g1x rfl) (pa_cons (pe_glob (v := .ref h2) (by rfl) g2x rfl) (pa_cons (pe_glob (v := .ref h3) (by rfl) g3x rfl) (pa_cons (pe_glob (v := .ref h4) (by rfl) g4x rfl) (pa_cons (pe_glob (v := .ref h5) (by rfl) g5x rfl) (pa_cons (pe_glob (v := .ref h6) (by rfl) g6x rfl) pa_nil)))))))) (pv 0) (fun _ _ => rfl)) (pa_cons (pv 1) (pa_cons (pv 2) pa_nil))))), ?_⟩
        refine ⟨_, rfl, rfl, _, rfl, ite2 (fun q => absurd (of_decide_eq_true q) (by decide +kernel)) fun _ => ?_⟩
        refine ⟨(show 7 ≤ sizeLine by decide), fun l nl => ?_⟩
        have sl := sn nl (o := .lst [.ref h0, .ref h1, .ref h2, .ref h3, .ref h4, .ref h5, .ref h6])
        refine ⟨_, rfl, l, _, _, .ref h6, rfl, rfl, SqL.of upd_same, (show atI _ ((6 : Nat) : Int) = _ from atI_nat rfl), rfl, ?_⟩
        refine ⟨_, rfl, _, rfl, ?_⟩
        exact ⟨u, v, wd, x, rfl, h.same sl, k.same sl⟩
      · refine ⟨_, pss_cons (ps_if (pt_cmpR op_eq (pv 0) pe_int (nomark _)) (pss_one ps_never) pss_nil) (pss_one (ps_ret (pe_callX (f := f6) (E := fun _ => E0) G6 r6 F6.kp b6 (fun _ _ _ _ _ _ _ c => c.elim) (pe_ix ix_list (pe_lst (pa_cons (pe_glob (v := .ref f0) (by rfl) g0 rfl) (pa_cons (pe_glob (v := .ref f1) (by rfl) g1 rfl) (pa_cons (pe_glob (v := .ref f2) (by rfl) g2 rfl) (pa_cons (pe_glob (v := .ref f3) (by rfl) g3 rfl) (pa_cons (pe_glob (v := .ref f4) (by rfl) g4 rfl) (pa_cons (pe_glob (v := .ref f5) (by rfl) g5 rfl) (pa_cons (pe_glob (v := .ref f6) (by rfl) g6 rfl) pa_nil)))))))) (pv 0) (fun _ _ => rfl)) (pa_cons (pv 1) (pa_cons (pv 2) pa_nil))))), ?_⟩
        refine ⟨_, rfl, rfl, _, rfl, ite2 (fun q => absurd (of_decide_eq_true q) (by decide +kernel)) fun _ => ?_⟩
        refine ⟨(show 7 ≤ sizeLine by decide), fun l nl => ?_⟩
        have sl := sn nl (o := .lst [.ref f0, .ref f1, .ref f2, .ref f3, .ref f4, .ref f5, .ref f6])
        refine ⟨_, rfl, l, _, _, .ref f6, rfl, rfl, SqL.of upd_same, (show atI _ ((6 : Nat) : Int) = _ from atI_nat rfl), rfl, ?_⟩
        refine ⟨_, rfl, _, rfl, ?_⟩
        exact (fi.same sl).dat (E := E0) rlWithin fun z H' s => k z H' (sl.trans s)
    | 7, _ =>
      rcases h with ⟨wd, x, h, k⟩ | ⟨a, b, xs, rs, ts, rfl, rfl, fi, k⟩
      · refine ⟨_, pss_cons (ps_if (pt_cmpR op_eq (pv 0) pe_int (nomark _)) (pss_one (ps_ret (pe_callX (f := h7) (E := WE fun cls d _ H' => E cls d H') G7x r5 F7x.kp b7x (fun σ => passAt tk σ) (pe_glob (v := .ref h7) (by rfl) g7x rfl) (pa_cons (pv 1) (pa_cons (pv 2) (pa_cons pe_non pa_nil)))))) pss_nil) pss_never, ?_⟩
        refine ⟨_, rfl, rfl, _, rfl, ite2 (fun _ => ?_) fun q => absurd (decide_eq_true rfl) q⟩
        refine ⟨rfl, _, rfl, _, rfl, ?_⟩
        exact ⟨u, v, .non, wd, x, rfl, h, k⟩
      · refine ⟨_, pss_cons (ps_if (pt_cmpR op_eq (pv 0) pe_int (nomark _)) (pss_one (ps_ret (pe_callX (f := f7) (E := fun _ => E0) G7 r6 F7.kp b7 (fun _ _ _ _ _ _ _ c => c.elim) (pe_glob (v := .ref f7) (by rfl) g7 rfl) (pa_cons (pv 1) (pa_cons (pv 2) (pa_cons pe_non pa_nil)))))) pss_nil) pss_never, ?_⟩
        refine ⟨_, rfl, rfl, _, rfl, ite2 (fun _ => ?_) fun q => absurd (decide_eq_true rfl) q⟩
        refine ⟨rfl, _, rfl, _, rfl, ?_⟩
        exact ⟨a, b, .non, xs, rs, ts, rfl, fi.pa, fi.pb, fi.wa, fi.wb, .inr ⟨.inl ⟨"NoneType", .base .non, by decide +kernel⟩, fun H' s => k _ H' s⟩⟩
end
end G14

set_option maxHeartbeats 16000000
namespace G14
open PySem PySem.Spec PyProof.Rows L2 G1
/-- what is known of the errors' classes where they are caught -/
structure CatC (K : PySem.W.Frag) (mg : Str → Option Value) : Prop where
  xf : ∀ w : Wd, XfC K (ga K w.err)
  nv : ∀ w : Wd, PySem.W.findIn K (.ref (ga K w.err)) "value" = some none
  gl : ∀ w : Wd, mg w.err = some (.ref (ga K w.err))
  ex : ∀ v w : Wd, PySem.W.exmOne K (.ref (ga K v.err)) (.ref (ga K w.err)) = some (decide (v.str = w.str))
def tSuite (x : Str) (C : Addr) : TsE := fun a cls d => tAsg (tLst (tCons (tC (.str x)) (tCons (tXf a cls d C "value" (tVar 4)) tNil))) (gName 3)
def spFell (K : PySem.W.Frag) (C : Addr) : Sp := fun vs H Q _ => ∃ (d : Nat) (u v : V), vs = [.int (d : Int), u, v] ∧ d < 8 ∧ ((∃ (wd : Wd) (x : V), Bad2 K C H u v wd x ∧ ∀ D H', Same H H' → H D = none → H' D = some (.lst [.str wd.str, x]) → Q (.ref D) H') ∨
  ∃ (a b : Addr) (xs : List Str) (rs ts : List (List Str)), u = .ref a ∧ v = .ref b ∧ Fine2 C H a b xs rs ts ∧ ∀ D H', Same H H' → H D = none → H' D = some (.lst [.str "let", .non]) → Q (.ref D) H')
section
variable {P : Program} {w : World} {K : PySem.W.Frag} {mg : Str → Option Value} {base : Heap} {C : Addr}
abbrev sFell : Stmt := top 75
abbrev nFell : List Str := ["_law_way", "_law_one", "_law_other", "_law_told", "error"]
theorem scFell : FnScope nFell ["_law_way", "_law_one", "_law_other"] (defScope sFell) := ⟨rfl, rfl, rfl, by decide +kernel, rfl, by decide +kernel, by decide +kernel⟩
theorem ok_fell {f : Addr} {fd : FuncData} (F : FnP K "_law_fell" sFell f fd) (CC : CatC K mg) (DA : DfX P w K mg base 7 "_law_called" sCalled ["_law_way", "_law_one", "_law_other"] (spCalled K C)) : FnOk P w K mg base CX0 8 f fd ["_law_way", "_law_one", "_law_other"] (spFell K C) := by
  refine okN F scFell (fun vs H Q E h => ?_) (fun cdv A outer s H vs Q E hr h => ?_)
  · obtain ⟨_, _, _, rfl, _⟩ := h
    rfl
  · obtain ⟨d, u, v, rfl, hd, h⟩ := h
    have nd := scFell.nd
    refine ⟨_, pss_cons (ps_set (i := 3) nd rfl (Or.inl rfl) (pe_lst (pa_cons pe_str (pa_cons pe_non pa_nil))))
      (pss_cons (ps_try_some (i := 4) (n := "error") (tb := fun W => tDrop (tCallS (spCalled K C) (WE W) (tCons (tVar 0) (tCons (tVar 1) (tCons (tVar 2) tNil)))))
          (l := [(.ref (ga K Wd.pan.err), tSuite "panel" (ga K Wd.pan.err)), (.ref (ga K Wd.unl.err), tSuite "unlike" (ga K Wd.unl.err))]) rfl rfl nd rfl rfl
          (fun W pn xe tk _ => pss_one (ps_expr (pe_dfX DA hr (by rfl) tk (pa_cons (pv 0) (pa_cons (pv 1) (pa_cons (pv 2) pa_nil))))))
          (.cons ⟨rfl, by decide, .inl (CC.gl .pan)⟩ (fun a oe cls d pn hz hf => pss_one (ps_set (i := 3) nd rfl (Or.inl rfl) (pe_lst (pa_cons pe_str (pa_cons (pe_xf (CC.xf .pan) (CC.nv .pan) hz hf (pv 4)) pa_nil)))))
          (.cons ⟨rfl, by decide, .inl (CC.gl .unl)⟩ (fun a oe cls d pn hz hf => pss_one (ps_set (i := 3) nd rfl (Or.inl rfl) (pe_lst (pa_cons pe_str (pa_cons (pe_xf (CC.xf .unl) (CC.nv .unl) hz hf (pv 4)) pa_nil))))) .stop)))
      (pss_one (ps_ret (pv 3)))), ?_⟩
    refine ⟨(show 2 ≤ sizeLine by decide), fun T nT => ?_⟩
    have sT := sn nT (o := .lst [.str "let", .non])
    refine ⟨_, rfl, _, rfl, _, rfl, d, u, v, rfl, hd, ?_⟩
    rcases h with ⟨wd, x, hb, k⟩ | ⟨a, b, xs, rs, ts, rfl, rfl, fi, k⟩
    · refine .inl ⟨wd, x, hb.same sT, fun dd H2 s2 nd2 hd2 => ?_⟩
      have s02 := sT.trans s2
      cases wd with
      | pan =>
        refine ⟨true, CC.ex .pan .pan, fun _ y ny => ?_, (fun q => nomatch q)⟩
        refine ⟨_, rfl, rfl, rfl, dd, _, x, rfl, hd2, rfl, (show 2 ≤ sizeLine by decide), fun D nD => ?_⟩
        exact ⟨_, rfl, k D _ (s02.trans (sn nD)) (s02.free nD) upd_same⟩
      | unl =>
        refine ⟨false, CC.ex .unl .pan, (fun q => nomatch q), fun _ => ⟨true, CC.ex .unl .unl, fun _ y ny => ?_, (fun q => nomatch q)⟩⟩
        refine ⟨_, rfl, rfl, rfl, dd, _, x, rfl, hd2, rfl, (show 2 ≤ sizeLine by decide), fun D nD => ?_⟩
        exact ⟨_, rfl, k D _ (s02.trans (sn nD)) (s02.free nD) upd_same⟩
    · exact .inr ⟨a, b, xs, rs, ts, rfl, rfl, fi.same sT, fun z H' s' => ⟨_, rfl, k T H' (sT.trans s') nT (s' _ _ upd_same)⟩⟩
end
end G14

set_option maxHeartbeats 16000000
namespace G14
open PySem PySem.Spec PyProof.Rows L2 G1
def selfV : V → Bool
  | .ref _ => true
  | v => flatV v
theorem self_eqW {K : PySem.W.Frag} {H : Hp} {n : Nat} {v : V} (h : selfV v = true) : EqW K H n v v true := by
  cases v with
  | ref a => exact .same
  | non => exact (.flat rfl rfl : EqW K H n .non .non (eqV .non .non))
  | bl b =>
    have e : eqV (.bl b) (.bl b) = true := by cases b <;> rfl
    rw [← e]
    exact .flat rfl rfl
  | int i =>
    have e : eqV (.int i) (.int i) = true := beq_self_eq_true i
    rw [← e]
    exact .flat rfl rfl
  | str z =>
    have e : eqV (.str z) (.str z) = true := beq_self_eq_true z
    rw [← e]
    exact .flat rfl rfl
  | _ => cases h
/-- what may stand where a panel should -/
def OddT (K : PySem.W.Frag) (H : Hp) (v : V) : Prop := (∃ (l : Addr) (ys : List V), v = .ref l ∧ H l = some (.lst ys) ∧ ys.length ≤ 100) ∨ ∃ (T : String) (b : Bool), TyX K H v (.type T) ∧ kitB T "list" = some false ∧ kitB T "bool" = some b ∧ selfV v = true
theorem OddT.same {K : PySem.W.Frag} {H H' : Hp} {v : V} (h : OddT K H v) (s : Same H H') : OddT K H' v := by
  rcases h with ⟨l, ys, rfl, h, le⟩ | ⟨T, b, t, n, m, e⟩
  · exact .inl ⟨l, ys, rfl, s _ _ h, le⟩
  · exact .inr ⟨T, b, TyX.same t s, n, m, e⟩
def spHeld (K : PySem.W.Frag) : Sp := fun vs H Q _ => ∃ v, vs = [v, v] ∧ OddT K H v ∧ ∀ H', Same H H' → Q (.bl true) H'
theorem two_eq {K : PySem.W.Frag} {H : Hp} {n : Nat} {L R : Addr} {u v : V} (hL : H L = some (.lst [u, v])) (hR : H R = some (.lst [u, v])) (hu : selfV u = true) (hv : selfV v = true) : Lists2 K H n (.ref L) (.ref R) true := by
  refine ⟨L, R, [u, v], [u, v], rfl, rfl, SqL.of hL, SqL.of hR, .inr ⟨rfl, fun _ => true, fun i x y hx hy => ?_, rfl⟩⟩
  match i with
  | 0 =>
    cases hx
    cases hy
    exact self_eqW hu
  | 1 =>
    cases hx
    cases hy
    exact self_eqW hv
  | i + 2 => cases hx
theorem at_end {ys : List V} {z : V} : atI (ys ++ [z]) (-1) = some z := by
  have e3 : ixN (ys ++ [z]).length (-1) = some ys.length := by
    unfold ixN
    rw [List.length_append, List.length_singleton, if_neg (by decide), if_pos (by omega)]
    congr 1
    omega
  show (ixN (ys ++ [z]).length (-1)).bind (fun j => (ys ++ [z])[j]?) = _
  rw [e3]
  show (ys ++ [z])[ys.length]? = _
  rw [List.getElem?_append_right (Nat.le_refl _), Nat.sub_self]
  rfl
section
variable {P : Program} {w : World} {K : PySem.W.Frag} {mg : Str → Option Value} {base : Heap} {C : Addr}
abbrev sHeld : Stmt := top 76
abbrev nHeld : List Str := ["_law_field", "_law_odd", "_law_right"]
theorem scHeld : FnScope nHeld ["_law_field", "_law_odd"] (defScope sHeld) := ⟨rfl, rfl, rfl, by decide +kernel, rfl, by decide +kernel, by decide +kernel⟩
theorem ok_held {f : Addr} {fd : FuncData} (F : FnP K "_law_is_held" sHeld f fd) (LP : LibP mg) (LZ : LibZ mg) : FnOk P w K mg base CX0 1 f fd ["_law_field", "_law_odd"] (spHeld K) := by
  refine okN F scHeld (fun vs H Q E h => ?_) (fun cdv A outer s H vs Q E hr h => ?_)
  · obtain ⟨_, rfl, _⟩ := h
    rfl
  · obtain ⟨v, rfl, h, k⟩ := h
    have nd := scHeld.nd
    have hun := hr.un
    have hu1 : (A.deeper (envOfC "_law_is_held" (defScope sHeld) s.heap.objs.size f cdv)).units + (0 + 1) < cLine := by omega
    rcases h with ⟨l, ys, rfl, hl, le⟩ | ⟨T, b, ty, nk, bk, sf⟩
    · refine' ⟨_, pss_cons (ps_if (pt_val (pe_callB call_isi (by rfl) LP.isi (by decide +kernel) (pa_cons (pv 1) (pa_cons (pe_bltn (v := .ty "list") (by rfl) LP.list (by decide +kernel) rfl) pa_nil)))) (pss_cons ?b0 (pss_cons ?b1 (pss_cons ?b2 (pss_one (ps_ret (pv 2)))))) pss_nil) pss_never, ?_⟩
      case b0 => exact (ps_expr (pe_bm PySem.F.plainAttrs_list PySem.F.slot_list_append PySem.F.type_list_append mt_append (pv 1) (pa_cons pe_str pa_nil)))
      case b1 => exact (ps_set (i := 2) nd rfl (Or.inl rfl) (pe_and (pe_callB call_isi (by rfl) LP.isi (by decide +kernel) (pa_cons (pv 0) (pa_cons (pe_bltn (v := .ty "list") (by rfl) LP.list (by decide +kernel) rfl) pa_nil))) (pe_one (pe_cmpR op_eq (pe_ix ix_list (pv 0) (pe_un un_neg pe_int) (fun _ _ => rfl)) pe_str (nomark _)))))
      case b2 => exact (ps_expr (pe_bm0 PySem.F.plainAttrs_list PySem.F.slot_list_pop PySem.F.type_list_pop mt_pop (pv 1)))
      refine ⟨_, rfl, .ref l, .ty "list", .type "list", .type "list", true, rfl, .ty _, .base (.lst hl), kit_ty (by decide +kernel), _, rfl, iteT ?_⟩
      refine ⟨_, rfl, .inl ⟨rfl, _, SqL.of hl⟩, l, ys, .str "spoilt", rfl, rfl, hl, small1000 (by omega), ?_⟩
      have h1 : upd H l (.lst (ys ++ [.str "spoilt"])) l = some (.lst (ys ++ [.str "spoilt"])) := upd_same
      refine ⟨_, rfl, .ref l, .ty "list", .type "list", .type "list", true, rfl, .ty _, .base (.lst h1), kit_ty (by decide +kernel), _, rfl, iteT ?_⟩
      refine ⟨_, rfl, _, rfl, l, _, ((-1 : Int)), .str "spoilt", rfl, rfl, SqL.of h1, at_end, rfl, ?_⟩
      refine ⟨_, rfl, .inl ⟨rfl, _, SqL.of h1⟩, l, ys ++ [.str "spoilt"], .str "spoilt", rfl, rfl, h1, by simp, ?_⟩
      refine ⟨_, rfl, k _ fun c o e => ?_⟩
      by_cases q : c = l
      · rw [q, hl] at e
        rw [q, upd_same, List.dropLast_concat]
        exact e
      · rw [upd_ne q, upd_ne q]
        exact e
    · refine' ⟨_, pss_cons (ps_if (pt_val (pe_callB call_isi (by rfl) LP.isi (by decide +kernel) (pa_cons (pv 1) (pa_cons (pe_bltn (v := .ty "list") (by rfl) LP.list (by decide +kernel) rfl) pa_nil)))) pss_never pss_nil) (pss_one ?b3), ?_⟩
      case b3 => exact (ps_ret (pe_cmpR (op_eqW (n := 0) hu1) (pe_lst (pa_cons (pe_callB call_isi (by rfl) LP.isi (by decide +kernel) (pa_cons (pv 0) (pa_cons (pe_bltn (v := .ty "bool") (by rfl) LZ.bool (by decide +kernel) rfl) pa_nil))) (pa_cons (pv 0) pa_nil))) (pe_lst (pa_cons (pe_callB call_isi (by rfl) LP.isi (by decide +kernel) (pa_cons (pv 1) (pa_cons (pe_bltn (v := .ty "bool") (by rfl) LZ.bool (by decide +kernel) rfl) pa_nil))) (pa_cons (pv 1) pa_nil))) (nomark _)))
      refine ⟨_, rfl, v, .ty "list", .type T, .type "list", false, rfl, .ty _, ty, kit_ty nk, _, rfl, iteF ?_⟩
      refine ⟨_, rfl, v, .ty "bool", .type T, .type "bool", b, rfl, .ty _, ty, kit_ty bk, _, rfl, (show 2 ≤ sizeLine by decide), fun L nL => ?_⟩
      have sL := sn nL (o := .lst [.bl b, v])
      refine ⟨_, rfl, v, .ty "bool", .type T, .type "bool", b, rfl, .ty _, TyX.same ty sL, kit_ty bk, _, rfl, (show 2 ≤ sizeLine by decide), fun R nR => ?_⟩
      have sR := sn nR (o := .lst [.bl b, v])
      exact ⟨true, two_eq (sR _ _ upd_same) upd_same (by cases b <;> rfl) sf, k _ (sL.trans sR)⟩
end
end G14

set_option maxHeartbeats 16000000
namespace G14
open PySem PySem.Spec PyProof.Rows L2 G1
/-- what is known of the class beside -/
structure PanO (K : PySem.W.Frag) (C : Addr) : Prop where
  no : ∀ T : String, T = "NoneType" ∨ T = "int" ∨ T = "list" ∨ T = "tuple" ∨ T = "str" ∨ T = "dict" ∨ T = "bool" → PySem.W.kitOne K (.type T) (.ref C) = some false
/-- what stands where a panel should -/
def Od (K : PySem.W.Frag) (C : Addr) (H : Hp) (v : V) : Prop := OddP K C H v ∧ OddT K H v
theorem Od.same {K : PySem.W.Frag} {C : Addr} {H H' : Hp} {v : V} (h : Od K C H v) (s : Same H H') : Od K C H' v := ⟨h.1.same s, h.2.same s⟩
section
variable {K : PySem.W.Frag} {C : Addr} (O : PanO K C) {H : Hp}
include O
theorem od_non : Od K C H .non := ⟨⟨"NoneType", .base .non, O.no _ (by decide)⟩, .inr ⟨"NoneType", false, .base .non, by decide +kernel, by decide +kernel, rfl⟩⟩
theorem od_int (i : Int) : Od K C H (.int i) := ⟨⟨"int", .base (.int i), O.no _ (by decide)⟩, .inr ⟨"int", false, .base (.int i), by decide +kernel, by decide +kernel, rfl⟩⟩
theorem od_bl (b : Bool) : Od K C H (.bl b) := ⟨⟨"bool", .base (.bl b), O.no _ (by decide)⟩, .inr ⟨"bool", true, .base (.bl b), by decide +kernel, by decide +kernel, rfl⟩⟩
theorem od_str (z : Str) : Od K C H (.str z) := ⟨⟨"str", .base (.str z), O.no _ (by decide)⟩, .inr ⟨"str", false, .base (.str z), by decide +kernel, by decide +kernel, rfl⟩⟩
theorem od_tup {p : Addr} {vs : List V} (h : H p = some (.tup vs)) : Od K C H (.ref p) := ⟨⟨"tuple", .base (.tup h), O.no _ (by decide)⟩, .inr ⟨"tuple", false, .base (.tup h), by decide +kernel, by decide +kernel, rfl⟩⟩
theorem od_dct {p : Addr} {kvs : List (Key × V)} (h : H p = some (.dK kvs)) : Od K C H (.ref p) := ⟨⟨"dict", .base (.dK h), O.no _ (by decide)⟩, .inr ⟨"dict", false, .base (.dK h), by decide +kernel, by decide +kernel, rfl⟩⟩
theorem od_lst {p : Addr} {vs : List V} (h : H p = some (.lst vs)) (le : vs.length ≤ 100) : Od K C H (.ref p) := ⟨⟨"list", .base (.lst h), O.no _ (by decide)⟩, .inl ⟨p, vs, rfl, h, le⟩⟩
end
def spOdds (K : PySem.W.Frag) (C : Addr) : Sp := fun vs H Q _ => ∃ (n R : Addr) (xs : List Str) (as : List Addr) (rs : List (List Str)), vs = [.ref n, .ref R] ∧ H n = some (.lst (xs.map V.str)) ∧ H R = some (.lst (as.map V.ref)) ∧ RowsAt H as rs ∧ Good xs rs ∧
  ∀ (D : Addr) (us : List V) (H' : Hp), Same H H' → H D = none → H' D = some (.lst us) → us.length = 12 → (∀ u ∈ us, Od K C H' u) → Q (.ref D) H'
section
variable {P : Program} {w : World} {K : PySem.W.Frag} {mg : Str → Option Value} {base : Heap} {C : Addr}
abbrev sOdds : Stmt := top 77
abbrev nOdds : List Str := ["_law_names_here", "_law_rows"]
theorem scOdds : FnScope nOdds ["_law_names_here", "_law_rows"] (defScope sOdds) := ⟨rfl, rfl, rfl, by decide +kernel, rfl, by decide +kernel, by decide +kernel⟩
theorem ok_odds {f fI : Addr} {fd fdI : FuncData} (F : FnP K "_law_odds" sOdds f fd) (O : PanO K C) (M : Mk K C fI) (gP : mg "Panel" = some (.ref C)) (FI : FnM K "__init__" "Panel.__init__" sInit fI fdI) (GI : FnOk P w K mg base (L2.CX P w) 4 fI fdI ["self", "entries", "rows"] (spInit K C))  :
    FnOk P w K mg base CX0 6 f fd ["_law_names_here", "_law_rows"] (spOdds K C) := by
  have bI : Binds K fdI ["self", "entries", "rows"] [] := FI.bindsN fun _ _ _ _ _ _ us hl => match us, hl with | [_, _, _], _ => rfl
  refine okN F scOdds (fun vs H Q E h => ?_) (fun cdv A outer s H vs Q E hr h => ?_)
  · obtain ⟨_, _, _, _, _, rfl, _⟩ := h
    rfl
  · obtain ⟨n, R, xs, as, rs, rfl, hn, hR, has, gd, k⟩ := h
    have l7 := gd.l6
    have l1 := gd.l1
    have r8 := gd.r8
    refine' ⟨_, pss_one ?b0, ?_⟩
    case b0 => exact (ps_ret (pe_lst (pa_cons pe_non (pa_cons pe_int (pa_cons pe_bl (pa_cons pe_str (pa_cons (pe_lst pa_nil) (pa_cons pe_dnewK (pa_cons (pe_tup pa_nil) (pa_cons (pe_tup (pa_cons (pv 0) (pa_cons (pv 1) pa_nil))) (pa_cons (pe_lst (pa_cons (pv 0) (pa_cons (pv 1) pa_nil))) (pa_cons (pv 1) (pa_cons (pe_lst (pa_cons (pe_makeS M GI hr (by rfl) gP bI (fun σ => passAt takes_none5 σ) (pa_cons (pv 0) (pa_cons (pv 1) pa_nil))) pa_nil)) (pa_cons (pv 0) pa_nil))))))))))))))
    refine ⟨Nat.zero_le _, fun p1 np1 => ?_⟩
    have s1 := sn np1 (o := .lst [])
    intro p2 np2
    have s2 := s1.trans (sn np2 (o := .dK []))
    refine ⟨Nat.zero_le _, fun p3 np3 => ?_⟩
    have s3 := s2.trans (sn np3 (o := .tup []))
    refine ⟨_, rfl, _, rfl, (show 2 ≤ sizeLine by decide), fun p4 np4 => ?_⟩
    have s4 := s3.trans (sn np4 (o := .tup [.ref n, .ref R]))
    refine ⟨_, rfl, _, rfl, (show 2 ≤ sizeLine by decide), fun p5 np5 => ?_⟩
    have s5 := s4.trans (sn np5 (o := .lst [.ref n, .ref R]))
    refine ⟨_, rfl, _, rfl, _, rfl, ?_⟩
    refine make_ok (zs := xs) (xs := xs) (s5 _ _ hn) gd.nm gd.nd l1 (by omega) (.refl _) gd.so (s5 _ _ hR) (has.same s5) gd.pr gd.r1 (by omega) fun PN H6 s6 nPN pan _ fre => ?_
    refine ⟨(show 1 ≤ sizeLine by decide), fun p6 np6 => ?_⟩
    have t6 := sn np6 (o := .lst [.ref PN])
    have s06 := (s5.trans s6).trans t6
    refine ⟨_, rfl, (show 12 ≤ sizeLine by decide), fun D nD => ?_⟩
    have sD := sn nD (o := .lst [.non, .int 5, .bl true, .str "panel", .ref p1, .ref p2, .ref p3, .ref p4, .ref p5, .ref R, .ref p6, .ref n])
    refine k D _ _ (s06.trans sD) (s06.free nD) upd_same rfl fun u hu => ?_
    refine Od.same ?_ sD
    have u5 := s6.trans t6
    have u4 := (sn np5 (o := .lst [.ref n, .ref R])).trans u5
    have u3 := (sn np4 (o := .tup [.ref n, .ref R])).trans u4
    have u2 := (sn np3 (o := .tup [])).trans u3
    have u1 := (sn np2 (o := .dK [])).trans u2
    have lx : (xs.map V.str).length ≤ 100 := by rw [List.length_map]; omega
    have la : (as.map V.ref).length ≤ 100 := by rw [List.length_map, has.len]; omega
    simp only [List.mem_cons, List.not_mem_nil, or_false] at hu
    rcases hu with rfl | rfl | rfl | rfl | rfl | rfl | rfl | rfl | rfl | rfl | rfl | rfl
    · exact od_non O
    · exact od_int O _
    · exact od_bl O _
    · exact od_str O _
    · exact od_lst O (u1 _ _ upd_same) (Nat.zero_le _)
    · exact od_dct O (u2 _ _ upd_same)
    · exact od_tup O (u3 _ _ upd_same)
    · exact od_tup O (u4 _ _ upd_same)
    · exact od_lst O (u5 _ _ upd_same) (show 2 ≤ 100 by decide)
    · exact od_lst O (s06 _ _ hR) la
    · exact od_lst O upd_same (show 1 ≤ 100 by decide)
    · exact od_lst O (s06 _ _ hn) lx
end
end G14

set_option maxHeartbeats 8000000
namespace G14
open PySem PySem.Spec PyProof.Rows L2 G1
/-! ### making things of which something is known -/
def Mk1 (te : TE) (σ : L2.St) (H0 : Hp) (Pv : Hp → V → Prop) : Prop := ∀ (H : Hp) (Qk : VK), Same H0 H → (∀ v H', Same H H' → Pv H' v → Qk v H') → te σ H Qk
def MkA (ta : TA) (σ : L2.St) (H0 : Hp) (Pv : Hp → V → Prop) (n : Nat) : Prop := ∀ (H : Hp) (Qk : List V → Hp → Prop), Same H0 H → (∀ vs H', Same H H' → vs.length = n → (∀ v ∈ vs, Pv H' v) → Qk vs H') → ta σ H Qk
def MonV (Pv : Hp → V → Prop) : Prop := ∀ H H' v, Same H H' → Pv H v → Pv H' v
section
variable {σ : L2.St} {H0 : Hp} {Pv : Hp → V → Prop}
theorem mk_c {v : V} (h : ∀ H, Pv H v) : Mk1 (tC v) σ H0 Pv := fun H Qk _ k => k v H (Same.refl H) (h H)
theorem mk_l {ta : TA} {vs : List V} (e : ∀ σ H Q, ta σ H Q = Q vs H) (le : vs.length ≤ 30) (h : ∀ H p, H p = some (.lst vs) → Pv H (.ref p)) : Mk1 (tLst ta) σ H0 Pv := fun H Qk _ k => by
  show ta σ H _
  rw [e]
  exact ⟨Nat.le_of_lt (small1000 (by omega)), fun p np => k _ _ (sn np) (h _ _ upd_same)⟩
theorem mk_t {ta : TA} {vs : List V} (e : ∀ σ H Q, ta σ H Q = Q vs H) (le : vs.length ≤ 30) (h : ∀ H p, H p = some (.tup vs) → Pv H (.ref p)) : Mk1 (tTup ta) σ H0 Pv := fun H Qk _ k => by
  show ta σ H _
  rw [e]
  exact ⟨Nat.le_of_lt (small1000 (by omega)), fun p np => k _ _ (sn np) (h _ _ upd_same)⟩
theorem mk_d (h : ∀ H p, H p = some (.dK []) → Pv H (.ref p)) : Mk1 tDNewK σ H0 Pv := fun H Qk _ k p np => k _ _ (sn np) (h _ _ upd_same)
theorem mkA_nil : MkA tNil σ H0 Pv 0 := fun H Qk _ k => k [] H (Same.refl H) rfl fun v hv => nomatch hv
theorem mkA_cons {te : TE} {ta : TA} {n : Nat} (mo : MonV Pv) (h : Mk1 te σ H0 Pv) (t : MkA ta σ H0 Pv n) : MkA (tCons te ta) σ H0 Pv (n + 1) := fun H Qk s0 k => h H _ s0 fun v H1 s1 p1 => t H1 _ (s0.trans s1) fun vs H2 s2 l2 ps => k (v :: vs) H2 (s1.trans s2) (by rw [List.length_cons, l2]) fun x hx => by
  rcases List.mem_cons.mp hx with rfl | hx
  · exact mo _ _ _ s2 p1
  · exact ps x hx
theorem mk_out {ta : TA} {n : Nat} (mo : MonV Pv) (t : MkA ta σ H0 Pv n) (le : n ≤ 30) {H : Hp} {Q : VK} (s : Same H0 H) (k : ∀ D vs H', Same H H' → H D = none → H' D = some (.lst vs) → vs.length = n → (∀ v ∈ vs, Pv H' v) → Q (.ref D) H') : tLst ta σ H Q :=
  t H _ s fun vs H1 s1 l1 ps => ⟨Nat.le_of_lt (small1000 (by omega)), fun D nD => k D vs _ (s1.trans (sn nD)) (s1.free nD) upd_same l1 fun v hv => mo _ _ _ (sn nD) (ps v hv)⟩
end

/-! ### what is strictly ascending -/
theorem ltB_le {a b : Str} (h : ltB a b = true) : leS a b ∧ a ≠ b := by
  have q : a.cps.toList < b.cps.toList := of_decide_eq_true h
  refine ⟨fun z => List.lt_asymm q z, fun e => ?_⟩
  rw [e] at q
  exact List.lt_irrefl _ q
theorem asc_pw : ∀ {l : List Str}, ascB l = true → l.Pairwise fun a b => leS a b ∧ a ≠ b
  | [], _ => .nil
  | [x], _ => List.pairwise_singleton _ _
  | x :: y :: t, h => by
    have h2 : (ltB x y && ascB (y :: t)) = true := h
    rw [Bool.and_eq_true] at h2
    have ih := asc_pw h2.2
    obtain ⟨le, ne⟩ := ltB_le h2.1
    refine List.pairwise_cons.mpr ⟨fun z hz => ?_, ih⟩
    rcases List.mem_cons.mp hz with rfl | hz
    · exact ⟨le, ne⟩
    · obtain ⟨l2, n2⟩ := (List.pairwise_cons.mp ih).1 z hz
      refine ⟨leS_trans le l2, fun e => ?_⟩
      subst e
      exact ne (leS_anti le l2)
theorem asc_nd {l : List Str} (h : ascB l = true) : l.Nodup := (asc_pw h).imp fun q => q.2
theorem lot_nd {xs l : List Str} (h : l.Nodup → False) : (lotB xs l && decide (0 < l.length)) = false := by
  cases e : lotB xs l with
  | false => rfl
  | true => exact (h (asc_nd (Bool.and_eq_true_iff.mp e).2)).elim
theorem lot_out {xs l : List Str} {w : Str} (hw : w ∈ l) (n : w ∉ xs) : (lotB xs l && decide (0 < l.length)) = false := by
  cases e : lotB xs l with
  | false => rfl
  | true => exact (n (of_decide_eq_true (List.all_eq_true.mp (Bool.and_eq_true_iff.mp e).1 w hw))).elim
theorem lot_rev {xs l : List Str} (so : sortedS l = true) (nd : l.Nodup) (h : 1 < l.length) : (lotB xs l.reverse && decide (0 < l.reverse.length)) = false := by
  cases e : lotB xs l.reverse with
  | false => rfl
  | true =>
    exfalso
    have q := List.pairwise_reverse.mp (asc_pw (Bool.and_eq_true_iff.mp e).2)
    match l, h with
    | x :: y :: t, _ =>
      obtain ⟨l1, n1⟩ := (List.pairwise_cons.mp q).1 y List.mem_cons_self
      exact n1 (leS_anti l1 ((List.pairwise_cons.mp (sorted_pw so)).1 y List.mem_cons_self))
theorem nodup_sub_len {α : Type} [DecidableEq α] : ∀ {l m : List α}, l.Nodup → (∀ x ∈ l, x ∈ m) → l.length ≤ m.length
  | [], _, _, _ => Nat.zero_le _
  | x :: l, m, nd, h => by
    obtain ⟨n1, n2⟩ := List.nodup_cons.mp nd
    have hx := h x List.mem_cons_self
    have ih := nodup_sub_len (l := l) (m := m.erase x) n2 fun y hy => (List.mem_erase_of_ne (fun (e : y = x) => n1 (by rw [← e]; exact hy))).mpr (h y (List.mem_cons_of_mem _ hy))
    rw [List.length_erase_of_mem hx] at ih
    have := List.length_pos_of_mem hx
    rw [List.length_cons]
    omega
end G14

set_option maxHeartbeats 16000000
namespace G14
open PySem PySem.Spec PyProof.Rows L2 G1
def six : List Str := ["strange", "unknown", "nobody", "other", "more", "none"]
def spStrange : Sp := fun vs H Q _ => ∃ (n : Addr) (xs : List Str), vs = [.ref n] ∧ H n = some (.lst (xs.map V.str)) ∧ xs.length ≤ 5 ∧ ∀ (w : Str) (H' : Hp), Same H H' → w ∉ xs → w ∈ six → Q (.str w) H'
theorem six_nm : ∀ z ∈ six, Nm z := by
  intro z hz
  simp only [six, List.mem_cons, List.not_mem_nil, or_false] at hz
  rcases hz with rfl | rfl | rfl | rfl | rfl | rfl <;> (refine ⟨by decide +kernel, by decide +kernel, ?_⟩; unfold Letters; decide +kernel)
theorem leS_tot (a b : Str) : leS a b ∨ leS b a := by
  rcases List.le_total a.cps.toList b.cps.toList with h | h
  · exact .inl h
  · exact .inr h
theorem ex_sorted (zs : List Str) : ∃ xs : List Str, xs.Perm zs ∧ sortedS xs = true := by
  classical
  refine ⟨zs.mergeSort fun a b => decide (leS a b), List.mergeSort_perm _ _, pw_sorted ?_⟩
  refine (List.pairwise_mergeSort (le := fun a b => decide (leS a b)) (fun a b c h1 h2 => ?_) (fun a b => ?_) zs).imp fun h => of_decide_eq_true h
  · exact decide_eq_true (leS_trans (of_decide_eq_true h1) (of_decide_eq_true h2))
  · rcases leS_tot a b with h | h
    · rw [decide_eq_true h]
      rfl
    · rw [decide_eq_true h, Bool.or_true]
/-- a panel of other entries -/
def UnlP (C : Addr) (H : Hp) (xs : List Str) (v : V) : Prop := ∃ (a : Addr) (ys : List Str) (ts : List (List Str)), v = .ref a ∧ PanF H C a ys ts ∧ ys ≠ xs ∧ ys.length ≤ 900
theorem UnlP.same {C : Addr} {H H' : Hp} {xs : List Str} {v : V} (h : UnlP C H xs v) (s : Same H H') : UnlP C H' xs v := by
  obtain ⟨a, ys, ts, e, p, n, l⟩ := h
  exact ⟨a, ys, ts, e, p.same s, n, l⟩
def spUnl (C : Addr) : Sp := fun vs H Q _ => ∃ (n R : Addr) (xs : List Str) (as : List Addr) (rs : List (List Str)), vs = [.ref n, .ref R] ∧ H n = some (.lst (xs.map V.str)) ∧ H R = some (.lst (as.map V.ref)) ∧ RowsAt H as rs ∧ Good xs rs ∧ 2 ≤ xs.length ∧ xs.length ≤ 5 ∧
  ∀ (D : Addr) (us : List V) (H' : Hp), Same H H' → H D = none → H' D = some (.lst us) → us.length = 4 → (∀ u ∈ us, UnlP C H' xs u) → Q (.ref D) H'
theorem drop_perm {x0 : Str} {xt r : List Str} (nd : (x0 :: xt).Nodup) (p : r.Perm (x0 :: xt)) : (r.filter fun z => decide (z ≠ x0)).Perm xt := by
  have q := p.filter (fun z => decide (z ≠ x0))
  have e : (x0 :: xt).filter (fun z => decide (z ≠ x0)) = xt := by
    rw [List.filter_cons_of_neg (by simp)]
    exact List.filter_eq_self.mpr fun z hz => decide_eq_true fun e => (List.nodup_cons.mp nd).1 (e ▸ hz)
  rw [e] at q
  exact q
theorem new_upd {A B : Hp} {b : Addr} {o : HO} (h : A b ≠ none) : Same (newH A B) (upd B b o) := fun a u e => by
  unfold newH at e
  cases q : A a with
  | some v =>
    rw [q] at e
    cases e
  | none =>
    rw [q] at e
    rw [upd_ne (fun z => h (by rw [← z]; exact q))]
    exact e
section
variable {P : Program} {w : World} {K : PySem.W.Frag} {mg : Str → Option Value} {base : Heap} {C : Addr}
abbrev sStrange : Stmt := top 73
theorem scStrange : FnScope ["_law_names_here", "_law_word_here"] ["_law_names_here"] (defScope sStrange) := ⟨rfl, rfl, rfl, by decide +kernel, rfl, by decide +kernel, by decide +kernel⟩
theorem ok_strange {f : Addr} {fd : FuncData} (F : FnP K "_law_strange" sStrange f fd) : FnOk P w K mg base CX0 1 f fd ["_law_names_here"] spStrange := by
  refine okN F scStrange (fun vs H Q E h => ?_) (fun cdv A outer s H vs Q E hr h => ?_)
  · obtain ⟨_, _, rfl, _⟩ := h
    rfl
  · obtain ⟨n, xs, rfl, hn, l5, k⟩ := h
    have nd := scStrange.nd
    refine ⟨_, pss_one (ps_ret (pe_ix ix_list (pe_lc (own := [("_law_word_here", 1)]) (g := gName 1) (tt := tTest (tOp (rIn K true) (tVar 1) (tVar 0))) (te := tVar 1) rfl nd
        (pi_list (pe_lst (pa_cons pe_str (pa_cons pe_str (pa_cons pe_str (pa_cons pe_str (pa_cons pe_str (pa_cons pe_str pa_nil))))))))
        (blkOk_by (N := ["_law_names_here", "_law_word_here"]) (sc := defScope sStrange) (by decide +kernel)) (fun _ _ _ _ _ => pg_name (i := 1) scStrange.nd rfl (Or.inl rfl)) (fun _ _ _ _ _ => pts_one (pt_cmpR op_notIn_seq (pv 1) (pv 0) (by rfl))) (fun _ _ _ _ _ => pv 1)) pe_int (fun _ _ => rfl))), ?_⟩
    refine ⟨(show 6 ≤ sizeLine by decide), fun L nL => ?_⟩
    have sL := sn nL (o := .lst (six.map V.str))
    have hL : upd H L (.lst (six.map V.str)) L = some (.lst (six.map V.str)) := upd_same
    refine ⟨L, rfl, ⟨_, SqL.of hL⟩, fun D nD => lc_list (K := K) (a := L) (xs := six.map V.str) (fun j H' => H' D = some (.lst ((less xs (six.take j)).map V.str)) ∧ Same (upd H L (.lst (six.map V.str))) H') ⟨upd_same, sn nD⟩ (fun j H' _ h => SqL.of (h.2 _ _ hL)) ?_ ?_⟩
    · rintro j y H' hj ⟨u1, u2⟩
      rw [List.getElem?_map] at hj
      obtain ⟨z, hz, rfl⟩ := Option.map_eq_some_iff.mp hj
      refine ⟨rfl, _, rfl, _, rfl, n, xs.map V.str, rfl, .inl (SqL.of ((sL.trans u2) _ _ hn)), rfl, flat_strs, ?_⟩
      refine ⟨decide (z ∉ xs), by rw [if_pos rfl, inV_str, decide_not], ?_⟩
      have tk := less_take (zs := xs) hz
      by_cases e : z ∈ xs
      · rw [decide_eq_false (fun q => q e)]
        rw [if_pos e, List.append_nil] at tk
        refine iteF ?_
        rw [tk]
        exact ⟨u1, u2⟩
      · rw [decide_eq_true e]
        rw [if_neg e] at tk
        refine iteT ⟨_, rfl, _, u1, small1000 ?_, ?_, fun b o eb => ?_⟩
        · rw [List.length_map]
          have h1 : (less xs (six.take j)).length ≤ (six.take j).length := List.length_filter_le _ _
          have h2 := List.length_take_le' j six
          have h3 : six.length = 6 := rfl
          omega
        · rw [upd_same, tk, List.map_append]
          rfl
        · rw [upd_ne (ne_of_none eb nD)]
          exact u2 _ _ eb
    · rintro H2 ⟨u1, u2⟩
      rw [List.length_map, List.take_length] at u1
      have ne : 1 ≤ (less xs six).length := by
        refine Nat.one_le_iff_ne_zero.mpr fun e => ?_
        have e0 : less xs six = [] := List.eq_nil_of_length_eq_zero e
        have all : ∀ w ∈ six, w ∈ xs := fun w hw => by
          by_cases q : w ∈ xs
          · exact q
          · have : w ∈ less xs six := List.mem_filter.mpr ⟨hw, decide_eq_true q⟩
            rw [e0] at this
            cases this
        have := nodup_sub_len (l := six) (m := xs) (by decide +kernel) all
        have h3 : six.length = 6 := rfl
        omega
      have e0 : (less xs six)[0]? = some ((less xs six)[0]'(by omega)) := List.getElem?_eq_getElem _
      refine ⟨D, _, ((0 : Nat) : Int), .str ((less xs six)[0]'(by omega)), rfl, rfl, SqL.of u1, atI_nat (by rw [List.getElem?_map, e0]; rfl), ?_⟩
      exact k _ H2 (sL.trans u2) (of_decide_eq_true (List.mem_filter.mp (List.mem_of_getElem? e0)).2) (List.mem_filter.mp (List.mem_of_getElem? e0)).1
abbrev sUnl : Stmt := top 78
abbrev nUnl : List Str := ["_law_names_here", "_law_rows", "_law_strange_here", "_law_found", "_law_row", "_law_name"]
theorem scUnl : FnScope nUnl ["_law_names_here", "_law_rows"] (defScope sUnl) := ⟨rfl, rfl, rfl, by decide +kernel, rfl, by decide +kernel, by decide +kernel⟩
def scUnlIn1 : Scope := { kind := .function, names := [(Str.ofString ".0", .local), (Str.ofString "_law_row", .local), (Str.ofString "_law_names_here", .cell)], isGenerator := false, isCoroutine := false }
theorem ok_unl {f fI : Addr} {fd fdI : FuncData} (F : FnP K "_law_unlike" sUnl f fd) (DS : Df P w K mg base 1 "_law_strange" sStrange ["_law_names_here"] spStrange) (M : Mk K C fI) (gP : mg "Panel" = some (.ref C)) (FI : FnM K "__init__" "Panel.__init__" sInit fI fdI) (GI : FnOk P w K mg base (L2.CX P w) 4 fI fdI ["self", "entries", "rows"] (spInit K C))  :
    FnOk P w K mg base CX0 6 f fd ["_law_names_here", "_law_rows"] (spUnl C) := by
  have bI : Binds K fdI ["self", "entries", "rows"] [] := FI.bindsN fun _ _ _ _ _ _ us hl => match us, hl with | [_, _, _], _ => rfl
  refine okN F scUnl (fun vs H Q E h => ?_) (fun cdv A outer s H vs Q E hr h => ?_)
  · obtain ⟨_, _, _, _, _, rfl, _⟩ := h
    rfl
  · obtain ⟨n, R, xs, as, rs, rfl, hn, hR, has, gd, x2, x5, k⟩ := h
    have nd := scUnl.nd
    have r1 : Room 1 (A.deeper (envOfC "_law_unlike" (defScope sUnl) s.heap.objs.size f cdv)) := hr.mono (by decide)
    have r5 : Room 5 (A.deeper (envOfC "_law_unlike" (defScope sUnl) s.heap.objs.size f cdv)) := hr.mono (by decide)
    refine' ⟨_, pss_cons ?b0 (pss_cons ?b1 (pss_cons ?b2 (pss_one ?b3))), ?_⟩
    case b0 => exact (ps_set (i := 2) nd rfl (Or.inr rfl) (pe_df DS r1 (by rfl) (pa_cons (pv 0) pa_nil)))
    case b1 => exact (ps_set (i := 3) nd rfl (Or.inl rfl) (pe_lst (pa_cons (pe_makeS M GI r5 (by rfl) gP bI (fun σ => passAt takes_none5 σ) (pa_cons (pe_slice sl_list (pv 0) (po_some pe_int) po_none) (pa_cons (pe_lc (own := [("_law_row", 4)]) (g := gName 4) (tt := tYes) (te := (tLc (iList K (tVar 4)) (gName 5) (tTest (tOp rNe (tVar 5) (tOp (rIxL K) (tVar 0) (tC (.int 0))))) (tVar 5) [5])) (by rfl) nd (pi_list (pv 1))
        (blkOk_by (N := nUnl) (sc := (defScope sUnl)) (by decide +kernel)) (fun _ _ _ _ _ => (pg_name (i := 4) scUnl.nd rfl (Or.inl rfl))) (fun _ _ _ _ _ => pts_nil) (fun _ _ _ _ _ => (pe_lc (own := [("_law_name", 5)]) (g := gName 5) (tt := (tTest (tOp rNe (tVar 5) (tOp (rIxL K) (tVar 0) (tC (.int 0)))))) (te := (tVar 5)) (by rfl) scUnl.nd (pi_list (pv 4))
        (blkOk_by (N := nUnl) (sc := scUnlIn1) (by decide +kernel)) (fun _ _ _ _ _ => (pg_name (i := 5) scUnl.nd rfl (Or.inl rfl))) (fun _ _ _ _ _ => (pts_one (pt_cmpR op_ne (pv 5) (pe_ix ix_list (pv 0) pe_int (fun _ _ => rfl)) (nomark _)))) (fun _ _ _ _ _ => (pv 5))))) pa_nil))) pa_nil)))
    case b2 => exact (ps_expr (pe_bm PySem.F.plainAttrs_list PySem.F.slot_list_append PySem.F.type_list_append mt_append (pv 3) (pa_cons (pe_makeS M GI r5 (by rfl) gP bI (fun σ => passAt takes_none5 σ) (pa_cons (pe_op op_cat (pv 0) (pe_lst (pa_cons (pv 2) pa_nil))) (pa_cons (pe_lc (own := [("_law_row", 4)]) (g := gName 4) (tt := tYes) (te := (tOp rCat (tVar 4) (tLst (tCons (tVar 2) tNil)))) (by rfl) nd (pi_list (pv 1))
        (blkOk_by (N := nUnl) (sc := (defScope sUnl)) (by decide +kernel)) (fun _ _ _ _ _ => (pg_name (i := 4) scUnl.nd rfl (Or.inl rfl))) (fun _ _ _ _ _ => pts_nil) (fun _ _ _ _ _ => (pe_op op_cat (pv 4) (pe_lst (pa_cons (pv 2) pa_nil))))) pa_nil))) pa_nil)))
    case b3 => exact (ps_ret (pe_op op_cat (pv 3) (pe_lst (pa_cons (pe_makeS M GI r5 (by rfl) gP bI (fun σ => passAt takes_none5 σ) (pa_cons (pe_lst (pa_cons (pv 2) pa_nil)) (pa_cons (pe_lst (pa_cons (pe_lst (pa_cons (pv 2) pa_nil)) pa_nil)) pa_nil))) (pa_cons (pe_makeS M GI r5 (by rfl) gP bI (fun σ => passAt takes_none5 σ) (pa_cons (pe_op op_cat (pe_slice sl_list (pv 0) (po_some pe_int) po_none) (pe_lst (pa_cons (pv 2) pa_nil))) (pa_cons (pe_lst (pa_cons (pe_op op_cat (pe_slice sl_list (pv 0) (po_some pe_int) po_none) (pe_lst (pa_cons (pv 2) pa_nil))) pa_nil)) pa_nil))) pa_nil)))))
    refine ⟨_, rfl, n, xs, rfl, hn, x5, fun w H1 s1 hw w6 => ?_⟩
    have wn : Nm w := six_nm w w6
    obtain ⟨x0, xt, rfl⟩ : ∃ x0 xt, xs = x0 :: xt := by
      cases xs with
      | nil => exact absurd x2 (by decide)
      | cons a b => exact ⟨a, b, rfl⟩
    have r1' := gd.r1
    have r8 := gd.r8
    have xl : 1 ≤ xt.length := by
      have : (x0 :: xt).length = xt.length + 1 := rfl
      omega
    have xl4 : xt.length ≤ 4 := by
      have : (x0 :: xt).length = xt.length + 1 := rfl
      omega
    have ndx := List.nodup_cons.mp gd.nd
    have nmt : ∀ z ∈ xt, Nm z := fun z hz => gd.nm z (.tail _ hz)
    have e1 : cutV ((x0 :: xt).map V.str) (some (1 : Int)) none = xt.map V.str := cut1
    have lrow : ∀ r ∈ rs, r.length ≤ 5 := fun r hr => by rw [(gd.pr r hr).length_eq]; exact x5
    -- the first
    have hn1 := s1 _ _ hn
    refine ⟨_, rfl, _, rfl, n, _, rfl, SqL.of hn1, fun D1 nD1 => ?_⟩
    rw [e1]
    have sD1 := sn nD1 (o := .lst (xt.map V.str))
    have a2 := s1.trans sD1
    refine ⟨_, rfl, R, rfl, ⟨_, SqL.of (a2 _ _ hR)⟩, fun D2 nD2 => lc_make (f := fun r => r.filter fun z => decide (z ≠ x0)) (a2 _ _ hR) (has.same a2) (by omega) nD2 (fun _ => rfl) (fun i r c H' Qk hr0 hc s' kk => ?_) fun cs H3 q1 q2 s3 => ?_⟩
    · have hn' := s' _ _ (sD1 _ _ hn1)
      have lr := lrow r (List.mem_of_getElem? hr0)
      refine ⟨_, rfl, c, rfl, ⟨_, SqL.of hc⟩, fun D3 nD3 => lc_list (K := K) (a := c) (xs := r.map V.str) (fun j H'' => H'' D3 = some (.lst (((r.take j).filter fun z => decide (z ≠ x0)).map V.str)) ∧ Same H' H'') ⟨upd_same, sn nD3⟩ (fun j H'' _ h => SqL.of (h.2 _ _ hc)) ?_ ?_⟩
      · rintro j y H'' hj ⟨u1, u2⟩
        rw [List.getElem?_map] at hj
        obtain ⟨z, hz, rfl⟩ := Option.map_eq_some_iff.mp hj
        have tk : (r.take (j + 1)).filter (fun z => decide (z ≠ x0)) = (r.take j).filter (fun z => decide (z ≠ x0)) ++ if z = x0 then [] else [z] := by
          rw [List.take_succ, hz, List.filter_append]
          by_cases e : z = x0
          · rw [if_pos e]
            simp [e]
          · rw [if_neg e]
            simp [e]
        refine ⟨rfl, _, rfl, _, rfl, n, _, ((0 : Nat) : Int), .str x0, rfl, rfl, SqL.of (u2 _ _ hn'), atI_nat rfl, rfl, _, rfl, ?_⟩
        refine ite2 (fun q => ?_) fun q => ?_
        · have e : z ≠ x0 := fun e => by
            rw [e, decide_eq_true rfl] at q
            cases q
          rw [if_neg e] at tk
          refine ⟨_, rfl, _, u1, small1000 ?_, ?_, fun b o eb => ?_⟩
          · rw [List.length_map]
            have h1 := List.length_filter_le (fun z => decide (z ≠ x0)) (r.take j)
            have h2 := List.length_take_le' j r
            omega
          · rw [upd_same, tk, List.map_append]
            rfl
          · rw [upd_ne (ne_of_none eb nD3)]
            exact u2 _ _ eb
        · have e : z = x0 := Decidable.byContradiction fun e => q (by
            rw [decide_eq_false (fun z => e (V.str.inj z))]
            rfl)
          rw [if_pos e, List.append_nil] at tk
          rw [tk]
          exact ⟨u1, u2⟩
      · rintro H'' ⟨u1, u2⟩
        rw [List.length_map, List.take_length] at u1
        exact kk D3 _ u2 nD3 u1
    have l3 : rs.length ≤ 10 := r8
    refine make_ok (zs := xt) (xs := xt) (s3 _ _ upd_same) nmt ndx.2 xl (by omega) (.refl _) (pw_sorted (List.pairwise_cons.mp (sorted_pw gd.so)).2) q1 q2 (fun y hy => by
      obtain ⟨r, hr, rfl⟩ := List.mem_map.mp hy
      exact drop_perm gd.nd (gd.pr r hr)) (by rw [List.length_map]; exact r1') (by rw [List.length_map]; omega) fun P1 H4 s4 nP1 pan1 _ fre1 => ?_
    have a4 := (a2.trans s3).trans s4
    have pf1 : PanF H4 C P1 xt (rs.map fun r => r.filter fun z => decide (z ≠ x0)) := ⟨pan1, fre1.same new_sub, by rw [List.length_map]; omega⟩
    refine ⟨(show 1 ≤ sizeLine by decide), fun L1 nL1 => ?_⟩
    have sL1 := sn nL1 (o := .lst [.ref P1])
    have a5 := a4.trans sL1
    -- the second
    have l1s : ∀ {A : Hp}, Same H4 A → A L1 = none → True := fun _ _ => trivial
    obtain ⟨ys2, p2, so2⟩ := ex_sorted ((x0 :: xt) ++ [w])
    have nd2 : ((x0 :: xt) ++ [w]).Nodup := List.nodup_append.mpr ⟨gd.nd, by simp, fun a ha b hb => by
      rw [List.mem_singleton.mp hb]
      exact fun e => hw (e ▸ ha)⟩
    have nm2 : ∀ z ∈ (x0 :: xt) ++ [w], Nm z := fun z hz => by
      rcases List.mem_append.mp hz with h | h
      · exact gd.nm z h
      · rw [List.mem_singleton.mp h]
        exact wn
    have len2 : ((x0 :: xt) ++ [w]).length = xt.length + 2 := by rw [List.length_append]; rfl
    have hL1 : upd H4 L1 (.lst [.ref P1]) L1 = some (.lst [.ref P1]) := upd_same
    refine ⟨_, rfl, .inl ⟨rfl, _, SqL.of hL1⟩, _, rfl, _, rfl, (show 1 ≤ sizeLine by decide), fun e2 ne2 => ?_⟩
    have sE2 := sn ne2 (o := .lst [.str w])
    have a6 := a5.trans sE2
    refine ⟨n, e2, _, _, rfl, rfl, a6 _ _ hn, upd_same, Nat.le_of_lt (small1000 (by rw [List.length_map, List.length_singleton]; omega)), fun E2 nE2 => ?_⟩
    have e2s : (x0 :: xt).map V.str ++ [V.str w] = ((x0 :: xt) ++ [w]).map V.str := by
      rw [List.map_append]
      rfl
    rw [e2s]
    have sF2 := sn nE2 (o := .lst (((x0 :: xt) ++ [w]).map V.str))
    have a7 := a6.trans sF2
    refine ⟨_, rfl, R, rfl, ⟨_, SqL.of (a7 _ _ hR)⟩, fun D4 nD4 => lc_make (f := fun r => r ++ [w]) (a7 _ _ hR) (has.same a7) (by omega) nD4 (fun _ => rfl) (fun i r c H' Qk hr0 hc s' kk => ?_) fun cs2 H5 t1 t2 s5 => ?_⟩
    · have lr := lrow r (List.mem_of_getElem? hr0)
      refine ⟨_, rfl, _, rfl, (show 1 ≤ sizeLine by decide), fun p np => ?_⟩
      have sp := sn np (o := .lst [.str w])
      refine ⟨c, p, _, _, rfl, rfl, sp _ _ hc, upd_same, Nat.le_of_lt (small1000 (by rw [List.length_map, List.length_singleton]; omega)), fun G nG => ?_⟩
      refine kk G _ (sp.trans (sn nG)) (sp.free nG) ?_
      rw [upd_same, List.map_append]
      rfl
    have hL5 : H5 L1 = some (.lst [.ref P1]) := s5 _ _ (sF2 _ _ (sE2 _ _ hL1))
    refine make_ok (zs := (x0 :: xt) ++ [w]) (xs := ys2) (s5 _ _ upd_same) nm2 nd2 (by omega) (by omega) p2 so2 t1 t2 (fun y hy => by
      obtain ⟨r, hr, rfl⟩ := List.mem_map.mp hy
      exact ((gd.pr r hr).append_right [w]).trans p2.symm) (by rw [List.length_map]; exact r1') (by rw [List.length_map]; omega) fun P2 H6 s6 nP2 _ pan2 fre2 => ?_
    have hL6 : H6 L1 = some (.lst [.ref P1]) := s6 _ _ hL5
    have pf2' : PanF (newH H5 H6) C P2 ys2 (rs.map fun r => r ++ [w]) := ⟨pan2, fre2, by rw [List.length_map]; omega⟩
    refine ⟨L1, _, .ref P2, rfl, rfl, hL6, small1000 (show 1 ≤ 1000 by decide), ?_⟩
    have hL7 : upd H6 L1 (.lst ([.ref P1] ++ [.ref P2])) L1 = some (.lst [.ref P1, .ref P2]) := upd_same
    have pf2 : PanF (upd H6 L1 (.lst ([.ref P1] ++ [.ref P2]))) C P2 ys2 (rs.map fun r => r ++ [w]) := pf2'.same (new_upd (by rw [hL5]; exact fun q => nomatch q))
    have b4 : Same H4 (upd H6 L1 (.lst ([.ref P1] ++ [.ref P2]))) := same_upd ((((sL1.trans sE2).trans sF2).trans s5).trans s6) nL1
    generalize upd H6 L1 (.lst ([.ref P1] ++ [.ref P2])) = H7 at hL7 pf2 b4 ⊢
    have a7 := a4.trans b4
    -- the third
    refine ⟨_, rfl, _, rfl, (show 1 ≤ sizeLine by decide), fun g1 ng1 => ?_⟩
    have u1 := sn ng1 (o := .lst [.str w])
    refine ⟨_, rfl, (show 1 ≤ sizeLine by decide), fun g2 ng2 => ?_⟩
    have u2 := sn ng2 (o := .lst [.str w])
    refine ⟨(show 1 ≤ sizeLine by decide), fun g3 ng3 => ?_⟩
    have u3 := sn ng3 (o := .lst [.ref g2])
    have a10 := ((a7.trans u1).trans u2).trans u3
    have nm3 : ∀ z ∈ [w], Nm z := fun z hz => by rw [List.mem_singleton.mp hz]; exact wn
    refine make_ok (zs := [w]) (xs := [w]) (as := [g2]) (rs := [[w]]) (u3 _ _ (u2 _ _ upd_same)) nm3 (by simp) (show 1 ≤ 1 by decide) (show 1 ≤ 40 by decide) (.refl _) rfl upd_same (.cons (u3 _ _ upd_same) .nil) (fun y hy => by
      rw [List.mem_singleton.mp hy]) (show 1 ≤ 1 by decide) (show 1 ≤ 40 by decide) fun P3 H11 s11 nP3 pan3 _ fre3 => ?_
    have pf3 : PanF H11 C P3 [w] [[w]] := ⟨pan3, fre3.same new_sub, (show 1 ≤ 60 by decide)⟩
    have b11 := ((u1.trans u2).trans u3).trans s11
    have a11 := a7.trans b11
    -- the fourth
    have hn11 := a11 _ _ hn
    refine ⟨_, rfl, _, rfl, n, _, rfl, SqL.of hn11, fun h1 nh1 => ?_⟩
    rw [e1]
    have v1 := sn nh1 (o := .lst (xt.map V.str))
    refine ⟨_, rfl, (show 1 ≤ sizeLine by decide), fun h2 nh2 => ?_⟩
    have v2 := sn nh2 (o := .lst [.str w])
    refine ⟨h1, h2, _, _, rfl, rfl, v2 _ _ upd_same, upd_same, Nat.le_of_lt (small1000 (by rw [List.length_map, List.length_singleton]; omega)), fun h3 nh3 => ?_⟩
    have ets : xt.map V.str ++ [V.str w] = (xt ++ [w]).map V.str := by
      rw [List.map_append]
      rfl
    rw [ets]
    have v3 := sn nh3 (o := .lst ((xt ++ [w]).map V.str))
    have v123 := (v1.trans v2).trans v3
    refine ⟨_, rfl, _, rfl, n, _, rfl, SqL.of (v123 _ _ hn11), fun h4 nh4 => ?_⟩
    rw [e1]
    have v4 := sn nh4 (o := .lst (xt.map V.str))
    refine ⟨_, rfl, (show 1 ≤ sizeLine by decide), fun h5 nh5 => ?_⟩
    have v5 := sn nh5 (o := .lst [.str w])
    refine ⟨h4, h5, _, _, rfl, rfl, v5 _ _ upd_same, upd_same, Nat.le_of_lt (small1000 (by rw [List.length_map, List.length_singleton]; omega)), fun h6 nh6 => ?_⟩
    rw [ets]
    have v6 := sn nh6 (o := .lst ((xt ++ [w]).map V.str))
    refine ⟨(show 1 ≤ sizeLine by decide), fun h7 nh7 => ?_⟩
    have v7 := sn nh7 (o := .lst [.ref h6])
    have v47 := ((v4.trans v5).trans v6).trans v7
    obtain ⟨ys4, p4, so4⟩ := ex_sorted (xt ++ [w])
    have nd4 : (xt ++ [w]).Nodup := List.nodup_append.mpr ⟨ndx.2, by simp, fun a ha b hb => by
      rw [List.mem_singleton.mp hb]
      exact fun e => hw (e ▸ .tail _ ha)⟩
    have nm4 : ∀ z ∈ xt ++ [w], Nm z := fun z hz => by
      rcases List.mem_append.mp hz with h | h
      · exact nmt z h
      · exact nm3 z h
    have len4 : (xt ++ [w]).length = xt.length + 1 := by rw [List.length_append]; rfl
    refine make_ok (zs := xt ++ [w]) (xs := ys4) (as := [h6]) (rs := [xt ++ [w]]) (v47 _ _ upd_same) nm4 nd4 (by omega) (by omega) p4 so4 upd_same (.cons (v7 _ _ upd_same) .nil) (fun y hy => by
      rw [List.mem_singleton.mp hy]
      exact p4.symm) (show 1 ≤ 1 by decide) (show 1 ≤ 40 by decide) fun P4 H12 s12 nP4 pan4 _ fre4 => ?_
    have pf4 : PanF H12 C P4 ys4 [xt ++ [w]] := ⟨pan4, fre4.same new_sub, (show 1 ≤ 60 by decide)⟩
    have b12 := (v123.trans v47).trans s12
    refine ⟨(show 2 ≤ sizeLine by decide), fun Z nZ => ?_⟩
    have sZ := sn nZ (o := .lst [.ref P3, .ref P4])
    have b7 := (b11.trans b12).trans sZ
    refine ⟨L1, Z, _, _, rfl, rfl, b7 _ _ hL7, upd_same, (show 4 ≤ sizeLine by decide), fun D nD => ?_⟩
    have sD := sn nD (o := .lst ([.ref P1, .ref P2] ++ [.ref P3, .ref P4]))
    refine k D _ _ ((a7.trans b7).trans sD) ((a7.trans b7).free nD) upd_same rfl fun u hu => ?_
    have wm2 : w ∈ ys2 := p2.mem_iff.mpr (List.mem_append.mpr (.inr (.head _)))
    have wm4 : w ∈ ys4 := p4.mem_iff.mpr (List.mem_append.mpr (.inr (.head _)))
    have le2 := p2.length_eq
    have le4 := p4.length_eq
    simp only [List.cons_append, List.nil_append, List.mem_cons, List.not_mem_nil, or_false] at hu
    rcases hu with rfl | rfl | rfl | rfl
    · exact ⟨P1, _, _, rfl, pf1.same ((b4.trans b7).trans sD), (fun e => by have := congrArg List.length e; simp at this), by omega⟩
    · exact ⟨P2, _, _, rfl, pf2.same (b7.trans sD), (fun e => hw (e ▸ wm2)), by omega⟩
    · exact ⟨P3, _, _, rfl, pf3.same ((b12.trans sZ).trans sD), (fun e => hw (e ▸ .head _)), (show 1 ≤ 900 by decide)⟩
    · exact ⟨P4, _, _, rfl, pf4.same (sZ.trans sD), (fun e => hw (e ▸ wm4)), by omega⟩
end
end G14

set_option maxHeartbeats 16000000
namespace G14
open PySem PySem.Spec PyProof.Rows L2 G1
def spFalls (K : PySem.W.Frag) (C : Addr) : Sp := fun vs H Q _ => ∃ (d : Nat) (n R a b : Addr) (xs : List Str) (as : List Addr) (rs qs ts : List (List Str)), vs = [.int (d : Int), .ref n, .ref R, .ref a, .ref b] ∧ d < 8 ∧ Fine2 C H a b xs qs ts ∧
  H n = some (.lst (xs.map V.str)) ∧ H R = some (.lst (as.map V.ref)) ∧ RowsAt H as rs ∧ Good xs rs ∧ 2 ≤ xs.length ∧ xs.length ≤ 5 ∧ ∀ H', Same H H' → Q (.bl true) H'
section
variable {P : Program} {w : World} {K : PySem.W.Frag} {mg : Str → Option Value} {base : Heap} {C : Addr}
abbrev sFalls : Stmt := top 79
abbrev nFalls : List Str := ["_law_way", "_law_names_here", "_law_rows", "_law_one", "_law_other", "_law_odd", "_law_later", "_law_told"]
theorem scFalls : FnScope nFalls ["_law_way", "_law_names_here", "_law_rows", "_law_one", "_law_other"] (defScope sFalls) := ⟨rfl, rfl, rfl, by decide +kernel, rfl, by decide +kernel, by decide +kernel⟩
theorem ok_falls {f : Addr} {fd : FuncData} (F : FnP K "_law_falls" sFalls f fd) (D__law_odds : Df P w K mg base 6 "_law_odds" sOdds ["_law_names_here", "_law_rows"] (spOdds K C)) (D__law_fell : Df P w K mg base 8 "_law_fell" sFell ["_law_way", "_law_one", "_law_other"] (spFell K C)) (D__law_is_held : Df P w K mg base 1 "_law_is_held" sHeld ["_law_field", "_law_odd"] (spHeld K)) (D__law_unlike : Df P w K mg base 6 "_law_unlike" sUnl ["_law_names_here", "_law_rows"] (spUnl C)) :
    FnOk P w K mg base CX0 9 f fd ["_law_way", "_law_names_here", "_law_rows", "_law_one", "_law_other"] (spFalls K C) := by
  refine okN F scFalls (fun vs H Q E h => ?_) (fun cdv A outer s H vs Q E hr h => ?_)
  · obtain ⟨_, _, _, _, _, _, _, _, _, _, rfl, _⟩ := h
    rfl
  · obtain ⟨d, n, R, a, b, xs, as, rs, qs, ts, rfl, hd, fi, hn, hR, has, gd, x2, x5, k⟩ := h
    have nd := scFalls.nd
    have hun := hr.un
    have hu1 : (A.deeper (envOfC "_law_falls" (defScope sFalls) s.heap.objs.size f cdv)).units + (0 + 1) < cLine := by omega
    have r1 : Room 1 (A.deeper (envOfC "_law_falls" (defScope sFalls) s.heap.objs.size f cdv)) := hr.mono (by decide)
    have r6 : Room 6 (A.deeper (envOfC "_law_falls" (defScope sFalls) s.heap.objs.size f cdv)) := hr.mono (by decide)
    have r8 : Room 8 (A.deeper (envOfC "_law_falls" (defScope sFalls) s.heap.objs.size f cdv)) := hr.mono (by decide)
    refine' ⟨_, pss_cons (ps_for PassesOwn.never rfl (pi_list (pe_df D__law_odds r6 (by rfl) (pa_cons (pv 1) (pa_cons (pv 2) pa_nil)))) (pg_name (i := 5) nd rfl (Or.inl rfl)) (pss_cons (ps_for PassesOwn.never rfl (pi_list (pe_lst (pa_cons (pv 4) (pa_cons pe_non (pa_cons (pe_lst (pa_cons pe_non pa_nil)) pa_nil))))) (pg_name (i := 6) nd rfl (Or.inl rfl)) (pss_cons ?b0 (pss_one ?b1))) (pss_cons ?b2 (pss_one ?b3)))) (pss_cons (ps_for PassesOwn.never rfl (pi_list (pe_df D__law_unlike r6 (by rfl) (pa_cons (pv 1) (pa_cons (pv 2) pa_nil)))) (pg_name (i := 5) nd rfl (Or.inl rfl)) (pss_one ?b4)) (pss_one ?b5)), ?_⟩
    case b0 => exact (ps_set (i := 7) nd rfl (Or.inl rfl) (pe_df D__law_fell r8 (by rfl) (pa_cons (pv 0) (pa_cons (pv 5) (pa_cons (pv 6) pa_nil)))))
    case b1 => exact (ps_if (PW.pt (pw_or (pt_cmpR op_ne (pe_ix ix_list (pv 7) pe_int (fun _ _ => rfl)) pe_str (nomark _)) (pw_or1 (pt_not (pt_val (pe_df D__law_is_held r1 (by rfl) (pa_cons (pe_ix ix_list (pv 7) pe_int (fun _ _ => rfl)) (pa_cons (pv 5) pa_nil)))))))) (pss_one ps_never) pss_nil)
    case b2 => exact (ps_set (i := 7) nd rfl (Or.inl rfl) (pe_df D__law_fell r8 (by rfl) (pa_cons (pv 0) (pa_cons (pv 3) (pa_cons (pv 5) pa_nil)))))
    case b3 => exact (ps_if (PW.pt (pw_or (pt_cmpR op_ne (pe_ix ix_list (pv 7) pe_int (fun _ _ => rfl)) pe_str (nomark _)) (pw_or1 (pt_not (pt_val (pe_df D__law_is_held r1 (by rfl) (pa_cons (pe_ix ix_list (pv 7) pe_int (fun _ _ => rfl)) (pa_cons (pv 5) pa_nil)))))))) (pss_one ps_never) pss_nil)
    case b4 => exact (ps_if (PW.pt (pw_or (pt_cmpR (op_neW (n := 0) hu1) (pe_df D__law_fell r8 (by rfl) (pa_cons (pv 0) (pa_cons (pv 3) (pa_cons (pv 5) pa_nil)))) (pe_lst (pa_cons pe_str (pa_cons (pv 5) pa_nil))) (nomark _)) (pw_or1 (pt_cmpR (op_neW (n := 0) hu1) (pe_df D__law_fell r8 (by rfl) (pa_cons (pv 0) (pa_cons (pv 5) (pa_cons (pv 4) pa_nil)))) (pe_lst (pa_cons pe_str (pa_cons (pv 4) pa_nil))) (nomark _))))) (pss_one ps_never) pss_nil)
    case b5 => exact (ps_ret (pe_cmpR (op_eqW (n := 0) hu1) (pe_df D__law_fell r8 (by rfl) (pa_cons (pv 0) (pa_cons (pv 3) (pa_cons (pv 4) pa_nil)))) (pe_lst (pa_cons pe_str (pa_cons pe_non pa_nil))) (nomark _)))
    refine ⟨_, rfl, _, rfl, n, R, xs, as, rs, rfl, hn, hR, has, gd, fun D us H1 s1 nD hD lus hus => ?_⟩
    refine ⟨D, rfl, ⟨_, SqL.of hD⟩, for_list (K := K) (a := D) (xs := us) (fun i σ H' => ∃ o5 o6 o7 : Option V, σ = [some (.int (d : Int)), some (.ref n), some (.ref R), some (.ref a), some (.ref b), o5, o6, o7] ∧ Same H1 H') ⟨none, none, none, rfl, Same.refl _⟩
      (fun i σ H' _ h => by obtain ⟨_, _, _, _, h⟩ := h; exact SqL.of (h _ _ hD)) ?_ ?_⟩
    · rintro i y σ H2 hi ⟨o5, o6, o7, rfl, s2⟩
      have oy := (hus y (List.mem_of_getElem? hi)).same s2
      refine ⟨_, rfl, (show 1 ≤ sizeLine by decide), fun l nl => ?_⟩
      have t1 := sn nl (o := .lst [.non])
      refine ⟨(show 3 ≤ sizeLine by decide), fun J nJ => ?_⟩
      have t2 := t1.trans (sn nJ (o := .lst [.ref b, .non, .ref l]))
      have fJ : upd (upd H2 l (.lst [.non])) J (.lst [.ref b, .non, .ref l]) J = some (.lst [.ref b, .non, .ref l]) := upd_same
      generalize upd (upd H2 l (.lst [.non])) J (.lst [.ref b, .non, .ref l]) = H3 at t2 fJ ⊢
      refine ⟨J, rfl, ⟨_, SqL.of fJ⟩, for_list (K := K) (a := J) (xs := [.ref b, .non, .ref l]) (fun j σ H' => ∃ o6 o7 : Option V, σ = [some (.int (d : Int)), some (.ref n), some (.ref R), some (.ref a), some (.ref b), some y, o6, o7] ∧ Same H3 H') ⟨o6, o7, rfl, Same.refl _⟩
        (fun i σ H' _ h => by obtain ⟨_, _, _, h⟩ := h; exact SqL.of (h _ _ fJ)) ?_ ?_⟩
      · rintro j v σ H4 _ ⟨o6, o7, rfl, s4⟩
        have oy4 := oy.same (t2.trans s4)
        refine ⟨_, rfl, _, rfl, _, rfl, d, y, v, rfl, hd, .inl ⟨.pan, y, .inl ⟨rfl, rfl, oy4.1⟩, fun T H5 s5 nT hT => ?_⟩⟩
        refine ⟨_, rfl, T, _, ((0 : Nat) : Int), .str "panel", rfl, rfl, SqL.of hT, atI_nat rfl, rfl, _, rfl, iteF ?_⟩
        refine ⟨_, rfl, T, _, ((1 : Nat) : Int), y, rfl, rfl, SqL.of hT, atI_nat rfl, _, rfl, y, rfl, oy4.2.same s5, fun H6 s6 => ⟨_, rfl, iteF ?_⟩⟩
        exact ⟨_, _, rfl, (s4.trans s5).trans s6⟩
      · rintro σ H4 ⟨o6, o7, rfl, s4⟩
        have z4 := (s2.trans t2).trans s4
        have oy4 := oy.same (t2.trans s4)
        have fi4 := fi.same (s1.trans z4)
        refine ⟨_, rfl, _, rfl, _, rfl, d, .ref a, y, rfl, hd, .inl ⟨.pan, y, .inr ⟨a, xs, qs, rfl, fi4.pa, .inl ⟨rfl, rfl, oy4.1⟩⟩, fun T H5 s5 nT hT => ?_⟩⟩
        refine ⟨_, rfl, T, _, ((0 : Nat) : Int), .str "panel", rfl, rfl, SqL.of hT, atI_nat rfl, rfl, _, rfl, iteF ?_⟩
        refine ⟨_, rfl, T, _, ((1 : Nat) : Int), y, rfl, rfl, SqL.of hT, atI_nat rfl, _, rfl, y, rfl, oy4.2.same s5, fun H6 s6 => ⟨_, rfl, iteF ?_⟩⟩
        exact ⟨_, _, _, rfl, (z4.trans s5).trans s6⟩
    · rintro σ H2 ⟨o5, o6, o7, rfl, s2⟩
      have z2 := s1.trans s2
      refine ⟨_, rfl, _, rfl, n, R, xs, as, rs, rfl, z2 _ _ hn, z2 _ _ hR, has.same z2, gd, x2, x5, fun D2 vs H3 s3 nD2 hD2 lvs hvs => ?_⟩
      refine ⟨D2, rfl, ⟨_, SqL.of hD2⟩, for_list (K := K) (a := D2) (xs := vs) (fun i σ H' => ∃ o5 o6 o7 : Option V, σ = [some (.int (d : Int)), some (.ref n), some (.ref R), some (.ref a), some (.ref b), o5, o6, o7] ∧ Same H3 H') ⟨o5, o6, o7, rfl, Same.refl _⟩
        (fun i σ H' _ h => by obtain ⟨_, _, _, _, h⟩ := h; exact SqL.of (h _ _ hD2)) ?_ ?_⟩
      · rintro i y σ H4 hi ⟨o5, o6, o7, rfl, s4⟩
        obtain ⟨p, ys, us2, rfl, pf, ne, l9⟩ := (hvs y (List.mem_of_getElem? hi)).same s4
        have fi4 := fi.same ((z2.trans s3).trans s4)
        have xl : xs.length ≤ 900 := by omega
        refine ⟨_, rfl, _, rfl, _, rfl, d, .ref a, .ref p, rfl, hd, .inl ⟨.unl, .ref p, .inr ⟨a, xs, qs, rfl, fi4.pa, .inr ⟨p, ys, us2, rfl, pf, ne.symm, xl, l9, rfl, rfl⟩⟩, fun T H5 s5 nT hT => ?_⟩⟩
        refine ⟨_, rfl, (show 2 ≤ sizeLine by decide), fun M nM => ?_⟩
        have sM := sn nM (o := .lst [.str "unlike", .ref p])
        refine ⟨true, two_eq (sM _ _ hT) upd_same rfl rfl, _, rfl, iteF ?_⟩
        have s6 := s5.trans sM
        generalize upd H5 M (.lst [.str "unlike", .ref p]) = H6 at s6 ⊢
        refine ⟨_, rfl, _, rfl, _, rfl, d, .ref p, .ref b, rfl, hd, .inl ⟨.unl, .ref b, .inr ⟨p, ys, us2, rfl, pf.same s6, .inr ⟨b, xs, ts, rfl, fi4.pb.same s6, ne, l9, xl, rfl, rfl⟩⟩, fun T2 H7 s7 nT2 hT2 => ?_⟩⟩
        refine ⟨_, rfl, (show 2 ≤ sizeLine by decide), fun M2 nM2 => ?_⟩
        have sM2 := sn nM2 (o := .lst [.str "unlike", .ref b])
        refine ⟨true, two_eq (sM2 _ _ hT2) upd_same rfl rfl, _, rfl, iteF ?_⟩
        exact ⟨_, _, _, rfl, ((s4.trans s6).trans s7).trans sM2⟩
      · rintro σ H4 ⟨o5, o6, o7, rfl, s4⟩
        have z4 := (z2.trans s3).trans s4
        refine ⟨_, rfl, _, rfl, _, rfl, d, .ref a, .ref b, rfl, hd, .inr ⟨a, b, xs, qs, ts, rfl, rfl, fi.same z4, fun T H5 s5 nT hT => ?_⟩⟩
        refine ⟨(show 2 ≤ sizeLine by decide), fun M nM => ?_⟩
        have sM := sn nM (o := .lst [.str "let", .non])
        exact ⟨true, two_eq (sM _ _ hT) upd_same rfl rfl, k _ ((z4.trans s5).trans sM)⟩
end
end G14

set_option maxHeartbeats 16000000
namespace G14
open PySem PySem.Spec PyProof.Rows L2 G1

/-- a def called by names alone -/
theorem pe_dfN {X : Cx} {k : Nat} {x : Str} {st : Stmt} {ps : List Str} (ks : List Str) (idx : List Nat) {sp : Sp} {kws : List Keyword} {tk : TA} {p pos : Pos} (D : Df X.prog X.w X.K X.mg X.base k x st ps sp) (hr : Room k X.A) (hg : Gl X x) (hkw : PK X kws tk)
    (hB : ∀ f fd, FnP X.K x st f fd → KBn X.K fd ps 0 ks (fun us ws => gI idx us ws) (fun vs zs => gI idx vs zs)) (hall : (backToKw pos (keywordEach kws X.env)).all (·.1.isSome) = true := by rfl) (hks : (backToKw pos (keywordEach kws X.env)).filterMap (·.1) = ks := by rfl) (hdb : (x == ("__debug__" : Str)) = false := by decide)
    (hpl : ((backTo pos (starEach [] X.env)).any (·.1) || (backToKw pos (keywordEach kws X.env)).any (·.1.isNone)) = false := by rfl) : PE X (.Call (.Name x p) [] kws pos) (tCallN0 ks.length sp (fun vs zs => gI idx vs zs) E0 tk) := by
  obtain ⟨f, fd, F, g, G, b⟩ := D.ex
  exact pe_callN0 G hr hg g F.kp (hB f fd F) pass0 hkw hall hks hdb hpl

/-- two answers alike -/
def PairAt (K : PySem.W.Frag) (H : Hp) (u : V) : Prop := ∃ (p : Addr) (v1 v2 : V) (d : PyData), u = .ref p ∧ H p = some (.tup [v1, v2]) ∧ SeqAt.shaped d = true ∧ PyData.eqv d d = true ∧ Dp K H v1 d ∧ Dp K H v2 d
theorem PairAt.same {K : PySem.W.Frag} {H H' : Hp} {u : V} (h : PairAt K H u) (s : Same H H') : PairAt K H' u := by
  obtain ⟨p, v1, v2, d, e, h1, h2, h3, h4, h5⟩ := h
  exact ⟨p, v1, v2, d, e, s _ _ h1, h2, h3, dp_same s h4, dp_same s h5⟩
theorem pairs_app {K : PySem.W.Frag} {H H' : Hp} {us : List V} {u : V} (h : ∀ x ∈ us, PairAt K H x) (s : Same H H') (hu : PairAt K H' u) : ∀ x ∈ us ++ [u], PairAt K H' x := fun x hx => by
  rcases List.mem_append.mp hx with q | q
  · exact (h x q).same s
  · rw [List.mem_singleton.mp q]
    exact hu
def spBN (C : Addr) : Sp := fun vs H Q _ => ∃ (a b n : Addr) (xs fs : List Str) (rs ts : List (List Str)), vs = [.ref a, .ref b, .ref n] ∧ Fine2 C H a b xs rs ts ∧ FieldAt H n xs fs ∧ ∀ H', Same H H' → Q (.bl true) H'
section
variable {P : Program} {w : World} {K : PySem.W.Frag} {mg : Str → Option Value} {base : Heap} {C : Addr}
abbrev sBN : Stmt := top 80
abbrev nBN : List Str := ["_law_one", "_law_other", "_law_names_here", "_law_found", "_law_told", "_law_pair"]
theorem scBN : FnScope nBN ["_law_one", "_law_other", "_law_names_here"] (defScope sBN) := ⟨rfl, rfl, rfl, by decide +kernel, rfl, by decide +kernel, by decide +kernel⟩
theorem ok_bn {f : Addr} {fd : FuncData} (F : FnP K "_law_by_names" sBN f fd) (D0 : Df P w K mg base 6 "within" sWithin ["one", "other"] (DatSp K C rlWithin)) (D1 : Df P w K mg base 5 "alike" sAlike ["one", "other"] (DatSp K C rlAlike)) (D2 : Df P w K mg base 5 "beyond" sBeyond ["one", "other"] (DatSp K C rlBeyond)) (D3 : Df P w K mg base 5 "bad_row" sBad ["one", "other"] (DatSp K C rlBad)) (D4 : Df P w K mg base 6 "parting_field" sPF ["one", "other"] (DatSp K C rlPF)) (D5 : Df P w K mg base 6 "parting_size" sPSize ["one", "other"] (DatSp K C rlSize)) (D6 : Df P w K mg base 4 "parting_pairs" sPPairs ["one", "other"] (DatSp K C rlPairs)) (D7 : Df P w K mg base 6 "is_parting_field" sIPF ["one", "other", "value"] (spIPF K C)) : FnOk P w K mg base CX0 7 f fd ["_law_one", "_law_other", "_law_names_here"] (spBN C) := by
  refine okN F scBN (fun vs H Q E h => ?_) (fun cdv A outer s H vs Q E hr h => ?_)
  · obtain ⟨_, _, _, _, _, _, _, rfl, _⟩ := h
    rfl
  · obtain ⟨a, b, n, xs, fs, rs, ts, rfl, fi, fld, k⟩ := h
    have nd := scBN.nd
    have hun := hr.un
    have hu1 : (A.deeper (envOfC "_law_by_names" (defScope sBN) s.heap.objs.size f cdv)).units + (0 + 1) < cLine := by omega
    have hu64 : (A.deeper (envOfC "_law_by_names" (defScope sBN) s.heap.objs.size f cdv)).units + 64 < cLine := by omega
    have r4 : Room 4 (A.deeper (envOfC "_law_by_names" (defScope sBN) s.heap.objs.size f cdv)) := hr.mono (by decide)
    have r5 : Room 5 (A.deeper (envOfC "_law_by_names" (defScope sBN) s.heap.objs.size f cdv)) := hr.mono (by decide)
    have r6 : Room 6 (A.deeper (envOfC "_law_by_names" (defScope sBN) s.heap.objs.size f cdv)) := hr.mono (by decide)
    refine' ⟨_, pss_cons ?b0 (pss_cons ?b1 (pss_cons ?b2 (pss_cons ?b3 (pss_cons ?b4 (pss_cons ?b5 (pss_cons ?b6 (pss_one ?b7))))))), ?_⟩
    case b0 => exact (ps_set (i := 3) nd rfl (Or.inl rfl) (pe_lst (pa_cons (pe_tup (pa_cons (pe_dfN ["other", "one"] [1, 0] D0 r6 (by rfl) (pk_cons (pv 1) (pk_cons (pv 0) pk_nil)) (fun _ _ F => G1.FunD.kbP F 0 _ _ fun _ _ _ _ _ _ us ws l1 l2 => match us, ws, l1, l2 with | [], [_, _], _, _ => rfl)) (pa_cons (pe_df D0 r6 (by rfl) (pa_cons (pv 0) (pa_cons (pv 1) pa_nil))) pa_nil))) (pa_cons (pe_tup (pa_cons (pe_dfN ["other", "one"] [1, 0] D1 r5 (by rfl) (pk_cons (pv 1) (pk_cons (pv 0) pk_nil)) (fun _ _ F => G1.FunD.kbP F 0 _ _ fun _ _ _ _ _ _ us ws l1 l2 => match us, ws, l1, l2 with | [], [_, _], _, _ => rfl)) (pa_cons (pe_df D1 r5 (by rfl) (pa_cons (pv 0) (pa_cons (pv 1) pa_nil))) pa_nil))) pa_nil))))
    case b1 => exact (ps_set (i := 3) nd rfl (Or.inl rfl) (pe_op op_cat (pv 3) (pe_lst (pa_cons (pe_tup (pa_cons (pe_dfN ["other", "one"] [1, 0] D2 r5 (by rfl) (pk_cons (pv 1) (pk_cons (pv 0) pk_nil)) (fun _ _ F => G1.FunD.kbP F 0 _ _ fun _ _ _ _ _ _ us ws l1 l2 => match us, ws, l1, l2 with | [], [_, _], _, _ => rfl)) (pa_cons (pe_df D2 r5 (by rfl) (pa_cons (pv 0) (pa_cons (pv 1) pa_nil))) pa_nil))) pa_nil))))
    case b2 => exact (ps_set (i := 3) nd rfl (Or.inl rfl) (pe_op op_cat (pv 3) (pe_lst (pa_cons (pe_tup (pa_cons (pe_dfN ["other", "one"] [1, 0] D3 r5 (by rfl) (pk_cons (pv 1) (pk_cons (pv 0) pk_nil)) (fun _ _ F => G1.FunD.kbP F 0 _ _ fun _ _ _ _ _ _ us ws l1 l2 => match us, ws, l1, l2 with | [], [_, _], _, _ => rfl)) (pa_cons (pe_df D3 r5 (by rfl) (pa_cons (pv 0) (pa_cons (pv 1) pa_nil))) pa_nil))) pa_nil))))
    case b3 => exact (ps_set (i := 3) nd rfl (Or.inl rfl) (pe_op op_cat (pv 3) (pe_lst (pa_cons (pe_tup (pa_cons (pe_dfN ["other", "one"] [1, 0] D4 r6 (by rfl) (pk_cons (pv 1) (pk_cons (pv 0) pk_nil)) (fun _ _ F => G1.FunD.kbP F 0 _ _ fun _ _ _ _ _ _ us ws l1 l2 => match us, ws, l1, l2 with | [], [_, _], _, _ => rfl)) (pa_cons (pe_df D4 r6 (by rfl) (pa_cons (pv 0) (pa_cons (pv 1) pa_nil))) pa_nil))) pa_nil))))
    case b4 => exact (ps_set (i := 3) nd rfl (Or.inl rfl) (pe_op op_cat (pv 3) (pe_lst (pa_cons (pe_tup (pa_cons (pe_dfN ["other", "one"] [1, 0] D5 r6 (by rfl) (pk_cons (pv 1) (pk_cons (pv 0) pk_nil)) (fun _ _ F => G1.FunD.kbP F 0 _ _ fun _ _ _ _ _ _ us ws l1 l2 => match us, ws, l1, l2 with | [], [_, _], _, _ => rfl)) (pa_cons (pe_df D5 r6 (by rfl) (pa_cons (pv 0) (pa_cons (pv 1) pa_nil))) pa_nil))) pa_nil))))
    case b5 => exact (ps_set (i := 3) nd rfl (Or.inl rfl) (pe_op op_cat (pv 3) (pe_lst (pa_cons (pe_tup (pa_cons (pe_dfN ["other", "one"] [1, 0] D6 r4 (by rfl) (pk_cons (pv 1) (pk_cons (pv 0) pk_nil)) (fun _ _ F => G1.FunD.kbP F 0 _ _ fun _ _ _ _ _ _ us ws l1 l2 => match us, ws, l1, l2 with | [], [_, _], _, _ => rfl)) (pa_cons (pe_df D6 r4 (by rfl) (pa_cons (pv 0) (pa_cons (pv 1) pa_nil))) pa_nil))) pa_nil))))
    case b6 => exact (ps_set (i := 4) nd rfl (Or.inl rfl) (pe_dfN ["value", "other", "one"] [2, 1, 0] D7 r6 (by rfl) (pk_cons (pv 2) (pk_cons (pv 1) (pk_cons (pv 0) pk_nil))) (fun _ _ F => G1.FunD.kbP F 0 _ _ fun _ _ _ _ _ _ us ws l1 l2 => match us, ws, l1, l2 with | [], [_, _, _], _, _ => rfl)))
    case b7 => exact (ps_ret (pe_and (pe_cmpR op_eq (pv 4) (pe_df D7 r6 (by rfl) (pa_cons (pv 0) (pa_cons (pv 1) (pa_cons (pv 2) pa_nil)))) (nomark _)) (pe_one (pe_cmpR (op_eqW (n := 0) hu1) (pe_lc (own := [("_law_pair", 5)]) (g := gName 5) (tt := (tTest (tOp (rNeD K) (tOp (rIxT K) (tVar 5) (tC (.int 0))) (tOp (rIxT K) (tVar 5) (tC (.int 1)))))) (te := (tVar 5)) (by rfl) nd (pi_list (pv 3))
        (blkOk_by (N := nBN) (sc := (defScope sBN)) (by decide +kernel)) (fun _ _ _ _ _ => (pg_name (i := 5) scBN.nd rfl (Or.inl rfl))) (fun _ _ _ _ _ => (pts_one (pt_cmpR (op_neD hu64) (pe_ix ix_tup (pv 5) pe_int (fun _ _ => rfl)) (pe_ix ix_tup (pv 5) pe_int (fun _ _ => rfl)) (nomark _)))) (fun _ _ _ _ _ => (pv 5))) (pe_lst pa_nil) (nomark _)))))
    refine ⟨_, rfl, _, rfl, rfl, a, b, xs, rs, ts, rfl, fi.same (Same.refl H), fun v1 d1 H1 s1 q1 sh ev dp1 => ?_⟩
    refine ⟨_, rfl, _, rfl, a, b, xs, rs, ts, rfl, fi.same (Same.trans (Same.refl H) s1), fun v2 d2 H2 s2 q2 _ _ dp2 => ⟨(show 2 ≤ sizeLine by decide), fun p0 np => ?_⟩⟩
    obtain rfl := one_within _ _ _ _ _ q1 q2
    have sp := sn np (o := .tup [v1, v2])
    have pr0 : PairAt K (upd H2 p0 (.tup [v1, v2])) (.ref p0) := ⟨p0, v1, v2, d1, rfl, upd_same, sh, ev, dp_same (s2.trans sp) dp1, dp_same sp dp2⟩
    have z0 : Same H (upd H2 p0 (.tup [v1, v2])) := (Same.trans (Same.refl H) (s1.trans s2)).trans sp
    have y0 := (s1.trans s2).trans sp
    generalize upd H2 p0 (.tup [v1, v2]) = G0 at pr0 z0 y0 ⊢
    clear q1 q2 sh ev dp1 dp2 s1 s2 np sp
    refine ⟨_, rfl, _, rfl, rfl, a, b, xs, rs, ts, rfl, fi.same z0, fun v1 d1 H1 s1 q1 sh ev dp1 => ?_⟩
    refine ⟨_, rfl, _, rfl, a, b, xs, rs, ts, rfl, fi.same (Same.trans z0 s1), fun v2 d2 H2 s2 q2 _ _ dp2 => ⟨(show 2 ≤ sizeLine by decide), fun p1 np => ?_⟩⟩
    obtain rfl := one_alike _ _ _ _ _ q1 q2
    have sp := sn np (o := .tup [v1, v2])
    have pr1 : PairAt K (upd H2 p1 (.tup [v1, v2])) (.ref p1) := ⟨p1, v1, v2, d1, rfl, upd_same, sh, ev, dp_same (s2.trans sp) dp1, dp_same sp dp2⟩
    have z1 : Same H (upd H2 p1 (.tup [v1, v2])) := (Same.trans z0 (s1.trans s2)).trans sp
    have y1 := (s1.trans s2).trans sp
    generalize upd H2 p1 (.tup [v1, v2]) = G1 at pr1 z1 y1 ⊢
    clear q1 q2 sh ev dp1 dp2 s1 s2 np sp
    refine ⟨(show 2 ≤ sizeLine by decide), fun S1 nS => ?_⟩
    have sS := sn nS (o := .lst [.ref p0, .ref p1])
    have hus1 := pairs_app (us := [.ref p0]) (fun u hu => by rw [List.mem_singleton.mp hu]; exact pr0) (y1.trans sS) (pr1.same sS)
    have hS1 : upd G1 S1 (.lst [.ref p0, .ref p1]) S1 = some (.lst ([.ref p0] ++ [.ref p1])) := upd_same
    have zS1 := z1.trans sS
    have lus1 : ([.ref p0] ++ [.ref p1] : List V).length = 2 := rfl
    generalize upd G1 S1 (.lst [.ref p0, .ref p1]) = W1 at hus1 hS1 zS1 ⊢
    generalize ([.ref p0] ++ [.ref p1] : List V) = us1 at hus1 hS1 lus1
    clear pr0 pr1 y0 y1 z0 z1 sS nS
    refine ⟨_, rfl, _, rfl, _, rfl, rfl, a, b, xs, rs, ts, rfl, fi.same zS1, fun v1 d1 H1 s1 q1 sh ev dp1 => ?_⟩
    refine ⟨_, rfl, _, rfl, a, b, xs, rs, ts, rfl, fi.same (Same.trans zS1 s1), fun v2 d2 H2 s2 q2 _ _ dp2 => ⟨(show 2 ≤ sizeLine by decide), fun p2 np => ?_⟩⟩
    obtain rfl := one_beyond _ _ _ _ _ q1 q2
    have sp := sn np (o := .tup [v1, v2])
    have pr2 : PairAt K (upd H2 p2 (.tup [v1, v2])) (.ref p2) := ⟨p2, v1, v2, d1, rfl, upd_same, sh, ev, dp_same (s2.trans sp) dp1, dp_same sp dp2⟩
    have z2 : Same H (upd H2 p2 (.tup [v1, v2])) := (Same.trans zS1 (s1.trans s2)).trans sp
    have y2 := (s1.trans s2).trans sp
    generalize upd H2 p2 (.tup [v1, v2]) = G2 at pr2 z2 y2 ⊢
    clear q1 q2 sh ev dp1 dp2 s1 s2 np sp
    refine ⟨(show 1 ≤ sizeLine by decide), fun l nl => ?_⟩
    have sl := sn nl (o := .lst [.ref p2])
    refine ⟨S1, l, us1, [.ref p2], rfl, rfl, (y2.trans sl) _ _ hS1, upd_same, (show us1.length + 1 ≤ sizeLine by rw [lus1]; decide), fun S2 nS => ?_⟩
    have sS := sn nS (o := .lst (us1 ++ [.ref p2]))
    have hus2 := pairs_app hus1 ((y2.trans sl).trans sS) (pr2.same (sl.trans sS))
    have hS2 : upd (upd G2 l (.lst [.ref p2])) S2 (.lst (us1 ++ [.ref p2])) S2 = some (.lst (us1 ++ [.ref p2])) := upd_same
    have zS2 := (z2.trans sl).trans sS
    have lus2 : (us1 ++ [V.ref p2]).length = 2 + 1 := by rw [List.length_append, lus1]; rfl
    generalize upd (upd G2 l (.lst [.ref p2])) S2 (.lst (us1 ++ [.ref p2])) = W2 at hus2 hS2 zS2 ⊢
    generalize us1 ++ [V.ref p2] = us2 at hus2 hS2 lus2
    clear pr2 y2 z2 sl nl sS nS hus1 hS1 zS1
    refine ⟨_, rfl, _, rfl, _, rfl, rfl, a, b, xs, rs, ts, rfl, fi.same zS2, fun v1 d1 H1 s1 q1 sh ev dp1 => ?_⟩
    refine ⟨_, rfl, _, rfl, a, b, xs, rs, ts, rfl, fi.same (Same.trans zS2 s1), fun v2 d2 H2 s2 q2 _ _ dp2 => ⟨(show 2 ≤ sizeLine by decide), fun p3 np => ?_⟩⟩
    obtain rfl := one_bad _ _ _ _ _ q1 q2
    have sp := sn np (o := .tup [v1, v2])
    have pr3 : PairAt K (upd H2 p3 (.tup [v1, v2])) (.ref p3) := ⟨p3, v1, v2, d1, rfl, upd_same, sh, ev, dp_same (s2.trans sp) dp1, dp_same sp dp2⟩
    have z3 : Same H (upd H2 p3 (.tup [v1, v2])) := (Same.trans zS2 (s1.trans s2)).trans sp
    have y3 := (s1.trans s2).trans sp
    generalize upd H2 p3 (.tup [v1, v2]) = G3 at pr3 z3 y3 ⊢
    clear q1 q2 sh ev dp1 dp2 s1 s2 np sp
    refine ⟨(show 1 ≤ sizeLine by decide), fun l nl => ?_⟩
    have sl := sn nl (o := .lst [.ref p3])
    refine ⟨S2, l, us2, [.ref p3], rfl, rfl, (y3.trans sl) _ _ hS2, upd_same, (show us2.length + 1 ≤ sizeLine by rw [lus2]; decide), fun S3 nS => ?_⟩
    have sS := sn nS (o := .lst (us2 ++ [.ref p3]))
    have hus3 := pairs_app hus2 ((y3.trans sl).trans sS) (pr3.same (sl.trans sS))
    have hS3 : upd (upd G3 l (.lst [.ref p3])) S3 (.lst (us2 ++ [.ref p3])) S3 = some (.lst (us2 ++ [.ref p3])) := upd_same
    have zS3 := (z3.trans sl).trans sS
    have lus3 : (us2 ++ [V.ref p3]).length = 3 + 1 := by rw [List.length_append, lus2]; rfl
    generalize upd (upd G3 l (.lst [.ref p3])) S3 (.lst (us2 ++ [.ref p3])) = W3 at hus3 hS3 zS3 ⊢
    generalize us2 ++ [V.ref p3] = us3 at hus3 hS3 lus3
    clear pr3 y3 z3 sl nl sS nS hus2 hS2 zS2
    refine ⟨_, rfl, _, rfl, _, rfl, rfl, a, b, xs, rs, ts, rfl, fi.same zS3, fun v1 d1 H1 s1 q1 sh ev dp1 => ?_⟩
    refine ⟨_, rfl, _, rfl, a, b, xs, rs, ts, rfl, fi.same (Same.trans zS3 s1), fun v2 d2 H2 s2 q2 _ _ dp2 => ⟨(show 2 ≤ sizeLine by decide), fun p4 np => ?_⟩⟩
    obtain rfl := one_pf _ _ _ _ _ q1 q2
    have sp := sn np (o := .tup [v1, v2])
    have pr4 : PairAt K (upd H2 p4 (.tup [v1, v2])) (.ref p4) := ⟨p4, v1, v2, d1, rfl, upd_same, sh, ev, dp_same (s2.trans sp) dp1, dp_same sp dp2⟩
    have z4 : Same H (upd H2 p4 (.tup [v1, v2])) := (Same.trans zS3 (s1.trans s2)).trans sp
    have y4 := (s1.trans s2).trans sp
    generalize upd H2 p4 (.tup [v1, v2]) = G4 at pr4 z4 y4 ⊢
    clear q1 q2 sh ev dp1 dp2 s1 s2 np sp
    refine ⟨(show 1 ≤ sizeLine by decide), fun l nl => ?_⟩
    have sl := sn nl (o := .lst [.ref p4])
    refine ⟨S3, l, us3, [.ref p4], rfl, rfl, (y4.trans sl) _ _ hS3, upd_same, (show us3.length + 1 ≤ sizeLine by rw [lus3]; decide), fun S4 nS => ?_⟩
    have sS := sn nS (o := .lst (us3 ++ [.ref p4]))
    have hus4 := pairs_app hus3 ((y4.trans sl).trans sS) (pr4.same (sl.trans sS))
    have hS4 : upd (upd G4 l (.lst [.ref p4])) S4 (.lst (us3 ++ [.ref p4])) S4 = some (.lst (us3 ++ [.ref p4])) := upd_same
    have zS4 := (z4.trans sl).trans sS
    have lus4 : (us3 ++ [V.ref p4]).length = 4 + 1 := by rw [List.length_append, lus3]; rfl
    generalize upd (upd G4 l (.lst [.ref p4])) S4 (.lst (us3 ++ [.ref p4])) = W4 at hus4 hS4 zS4 ⊢
    generalize us3 ++ [V.ref p4] = us4 at hus4 hS4 lus4
    clear pr4 y4 z4 sl nl sS nS hus3 hS3 zS3
    refine ⟨_, rfl, _, rfl, _, rfl, rfl, a, b, xs, rs, ts, rfl, fi.same zS4, fun v1 d1 H1 s1 q1 sh ev dp1 => ?_⟩
    refine ⟨_, rfl, _, rfl, a, b, xs, rs, ts, rfl, fi.same (Same.trans zS4 s1), fun v2 d2 H2 s2 q2 _ _ dp2 => ⟨(show 2 ≤ sizeLine by decide), fun p5 np => ?_⟩⟩
    obtain rfl := one_size _ _ _ _ _ q1 q2
    have sp := sn np (o := .tup [v1, v2])
    have pr5 : PairAt K (upd H2 p5 (.tup [v1, v2])) (.ref p5) := ⟨p5, v1, v2, d1, rfl, upd_same, sh, ev, dp_same (s2.trans sp) dp1, dp_same sp dp2⟩
    have z5 : Same H (upd H2 p5 (.tup [v1, v2])) := (Same.trans zS4 (s1.trans s2)).trans sp
    have y5 := (s1.trans s2).trans sp
    generalize upd H2 p5 (.tup [v1, v2]) = G5 at pr5 z5 y5 ⊢
    clear q1 q2 sh ev dp1 dp2 s1 s2 np sp
    refine ⟨(show 1 ≤ sizeLine by decide), fun l nl => ?_⟩
    have sl := sn nl (o := .lst [.ref p5])
    refine ⟨S4, l, us4, [.ref p5], rfl, rfl, (y5.trans sl) _ _ hS4, upd_same, (show us4.length + 1 ≤ sizeLine by rw [lus4]; decide), fun S5 nS => ?_⟩
    have sS := sn nS (o := .lst (us4 ++ [.ref p5]))
    have hus5 := pairs_app hus4 ((y5.trans sl).trans sS) (pr5.same (sl.trans sS))
    have hS5 : upd (upd G5 l (.lst [.ref p5])) S5 (.lst (us4 ++ [.ref p5])) S5 = some (.lst (us4 ++ [.ref p5])) := upd_same
    have zS5 := (z5.trans sl).trans sS
    have lus5 : (us4 ++ [V.ref p5]).length = 5 + 1 := by rw [List.length_append, lus4]; rfl
    generalize upd (upd G5 l (.lst [.ref p5])) S5 (.lst (us4 ++ [.ref p5])) = W5 at hus5 hS5 zS5 ⊢
    generalize us4 ++ [V.ref p5] = us5 at hus5 hS5 lus5
    clear pr5 y5 z5 sl nl sS nS hus4 hS4 zS4
    refine ⟨_, rfl, _, rfl, _, rfl, rfl, a, b, xs, rs, ts, rfl, fi.same zS5, fun v1 d1 H1 s1 q1 sh ev dp1 => ?_⟩
    refine ⟨_, rfl, _, rfl, a, b, xs, rs, ts, rfl, fi.same (Same.trans zS5 s1), fun v2 d2 H2 s2 q2 _ _ dp2 => ⟨(show 2 ≤ sizeLine by decide), fun p6 np => ?_⟩⟩
    obtain rfl := one_pairs _ _ _ _ _ q1 q2
    have sp := sn np (o := .tup [v1, v2])
    have pr6 : PairAt K (upd H2 p6 (.tup [v1, v2])) (.ref p6) := ⟨p6, v1, v2, d1, rfl, upd_same, sh, ev, dp_same (s2.trans sp) dp1, dp_same sp dp2⟩
    have z6 : Same H (upd H2 p6 (.tup [v1, v2])) := (Same.trans zS5 (s1.trans s2)).trans sp
    have y6 := (s1.trans s2).trans sp
    generalize upd H2 p6 (.tup [v1, v2]) = G6 at pr6 z6 y6 ⊢
    clear q1 q2 sh ev dp1 dp2 s1 s2 np sp
    refine ⟨(show 1 ≤ sizeLine by decide), fun l nl => ?_⟩
    have sl := sn nl (o := .lst [.ref p6])
    refine ⟨S5, l, us5, [.ref p6], rfl, rfl, (y6.trans sl) _ _ hS5, upd_same, (show us5.length + 1 ≤ sizeLine by rw [lus5]; decide), fun S6 nS => ?_⟩
    have sS := sn nS (o := .lst (us5 ++ [.ref p6]))
    have hus6 := pairs_app hus5 ((y6.trans sl).trans sS) (pr6.same (sl.trans sS))
    have hS6 : upd (upd G6 l (.lst [.ref p6])) S6 (.lst (us5 ++ [.ref p6])) S6 = some (.lst (us5 ++ [.ref p6])) := upd_same
    have zS6 := (z6.trans sl).trans sS
    have lus6 : (us5 ++ [V.ref p6]).length = 6 + 1 := by rw [List.length_append, lus5]; rfl
    generalize upd (upd G6 l (.lst [.ref p6])) S6 (.lst (us5 ++ [.ref p6])) = W6 at hus6 hS6 zS6 ⊢
    generalize us5 ++ [V.ref p6] = us6 at hus6 hS6 lus6
    clear pr6 y6 z6 sl nl sS nS hus5 hS5 zS5
    have f6 := fi.same zS6
    refine ⟨_, rfl, _, rfl, _, rfl, rfl, a, b, .ref n, xs, rs, ts, rfl, f6.pa, f6.pb, f6.wa, f6.wb, .inl ⟨n, fs, rfl, fld.same zS6, fun H1 s1 => ?_⟩⟩
    have f7 := f6.same s1
    refine ⟨_, rfl, _, rfl, _, rfl, _, rfl, a, b, .ref n, xs, rs, ts, rfl, f7.pa, f7.pb, f7.wa, f7.wb, .inl ⟨n, fs, rfl, fld.same (zS6.trans s1), fun H2 s2 => ⟨rfl, ?_⟩⟩⟩
    rw [decide_eq_true rfl]
    refine ⟨_, rfl, iteT ?_⟩
    have s12 := s1.trans s2
    refine ⟨_, rfl, S6, rfl, ⟨_, SqL.of (s12 _ _ hS6)⟩, fun D nD => lc_list (K := K) (a := S6) (xs := us6) (fun j H' => H' D = some (.lst []) ∧ Same H2 H') ⟨upd_same, sn nD⟩ (fun j H' _ h => SqL.of (h.2 _ _ (s12 _ _ hS6))) ?_ ?_⟩
    · rintro j y H' hj ⟨u1, u2⟩
      obtain ⟨p, v1, v2, d, rfl, hp, sh, ev, e1, e2⟩ := (hus6 y (List.mem_of_getElem? hj)).same (s12.trans u2)
      refine ⟨rfl, _, rfl, p, _, ((0 : Nat) : Int), v1, rfl, rfl, SqT.of hp, atI_nat rfl, _, rfl, p, _, ((1 : Nat) : Int), v2, rfl, rfl, SqT.of hp, atI_nat rfl, d, d, e1, e2, sh, sh, _, rfl, ?_⟩
      rw [ev]
      exact iteF ⟨u1, u2⟩
    · rintro H' ⟨u1, u2⟩
      refine ⟨Nat.zero_le _, fun l nl => ?_⟩
      have sl := sn nl (o := .lst [])
      exact ⟨true, ⟨D, l, [], [], rfl, rfl, SqL.of (sl _ _ u1), SqL.of upd_same, .inr ⟨rfl, fun _ => true, (fun i x y h => nomatch h), rfl⟩⟩, k _ (((zS6.trans s12).trans u2).trans sl)⟩
end
end G14

set_option maxHeartbeats 8000000
namespace G14
open PySem PySem.Spec PyProof.Rows L2 G1
def spOne (K : PySem.W.Frag) : Sp := fun vs H Q _ => ∃ (p l : Addr) (xs : List V) (c : Nat), vs = [.ref p, .ref l] ∧ Purse H p c ∧ c ≤ 900000 ∧ SqL K H l xs ∧ l ≠ p ∧ 1 ≤ xs.length ∧ xs.length ≤ 100 ∧
  ∀ (x : V) (H' : Hp), x ∈ xs → Purse H' p (c + 3) → But p H H' → Q x H'
section
variable {P : Program} {w : World} {K : PySem.W.Frag} {mg : Str → Option Value} {base : Heap} {C : Addr}
end
end G14

set_option maxHeartbeats 8000000
namespace G14
open PySem PySem.Spec PyProof.Rows L2 G1
theorem fst_before {fs : List Str} {z : Str} : ∀ {r : List Str}, fst? fs r = some z → ∀ y ∈ r.take (r.idxOf z), y ∉ fs
  | [], h => nomatch h
  | a :: r, h => by
    have zf : z ∈ fs := of_decide_eq_true (List.find?_some (p := fun w => decide (w ∈ fs)) h)
    unfold fst? at h
    by_cases e : a ∈ fs
    · rw [List.find?_cons_of_pos (p := fun w => decide (w ∈ fs)) (decide_eq_true e)] at h
      obtain rfl := Option.some.inj h
      rw [List.idxOf_cons_self, List.take_zero]
      exact fun y hy => nomatch hy
    · rw [List.find?_cons_of_neg (p := fun w => decide (w ∈ fs)) (by rw [decide_eq_false e]; decide)] at h
      have ne : ¬ a = z := fun q => e (q ▸ zf)
      rw [List.idxOf_cons, beq_eq_false_iff_ne.mpr ne, cond_false, List.take_succ_cons]
      intro y hy
      rcases List.mem_cons.mp hy with rfl | hy
      · exact e
      · exact fst_before (r := r) h y hy
/-- a row that adds nothing: whoever stands in it has a row where just such as are ahead here are ahead -/
def Harmless (rs : List (List Str)) (zs : List Str) : Prop := ∀ (j : Nat) (z : Str), zs[j]? = some z → ∃ t ∈ rs, ∀ y ∈ t.take (t.idxOf z), y ∈ zs.take j
def spHarm : Sp := fun vs H Q _ => ∃ (p n R : Addr) (c : Nat) (xs : List Str) (as : List Addr) (rs : List (List Str)), vs = [.ref p, .ref n, .ref R] ∧ Purse H p c ∧ c ≤ 800000 ∧ H n = some (.lst (xs.map V.str)) ∧ H R = some (.lst (as.map V.ref)) ∧ RowsAt H as rs ∧ Good xs rs ∧
  ∀ (D : Addr) (zs : List Str) (H' : Hp), zs.Perm xs → Harmless rs zs → H' D = some (.lst (zs.map V.str)) → H D = none → Purse H' p (c + 30) → But p H H' → Q (.ref D) H'
section
variable {P : Program} {w : World} {K : PySem.W.Frag} {mg : Str → Option Value} {base : Heap} {C : Addr}
end
end G14

set_option maxHeartbeats 8000000
namespace G14
open PySem PySem.Spec PyProof.Rows L2 G1
/-- a list of rows that is still changed -/
structure Fnd (Z : Hp) (F : Addr) (xs : List Str) (vs : List V) : Prop where
  at_ : Z F = some (.lst vs)
  ok : ∀ v ∈ vs, ∃ (c : Addr) (r : List Str), v = .ref c ∧ c ≠ F ∧ Z c = some (.lst (r.map V.str)) ∧ r.Perm xs
theorem Fnd.noint {Z : Hp} {F : Addr} {xs : List Str} {vs : List V} (h : Fnd Z F xs vs) : ∀ v ∈ vs, ∀ i, v ≠ .int i := fun v hv i e => by
  obtain ⟨c, _, rfl, _⟩ := h.ok v hv
  cases e
theorem Fnd.but {Z Z' : Hp} {F p : Addr} {c : Nat} {xs : List Str} {vs : List V} (h : Fnd Z F xs vs) (hp : Purse Z p c) (b : But p Z Z') : Fnd Z' F xs vs :=
  ⟨b _ _ (ne_purse h.at_ h.noint hp) h.at_, fun v hv => by
    obtain ⟨c, r, e, n, q, pr⟩ := h.ok v hv
    exact ⟨c, r, e, n, b _ _ (ne_purse q str_no_int hp) q, pr⟩⟩
theorem Fnd.same {Z Z' : Hp} {F : Addr} {xs : List Str} {vs : List V} (h : Fnd Z F xs vs) (s : Same Z Z') : Fnd Z' F xs vs :=
  ⟨s _ _ h.at_, fun v hv => by
    obtain ⟨c, r, e, n, q, pr⟩ := h.ok v hv
    exact ⟨c, r, e, n, s _ _ q, pr⟩⟩
theorem Fnd.put {Z : Hp} {F : Addr} {xs : List Str} {vs us : List V} (h : Fnd Z F xs vs) (k : ∀ v ∈ us, v ∈ vs ∨ ∃ (c : Addr) (r : List Str), v = .ref c ∧ c ≠ F ∧ Z c = some (.lst (r.map V.str)) ∧ r.Perm xs) : Fnd (upd Z F (.lst us)) F xs us :=
  ⟨upd_same, fun v hv => by
    have q : ∃ (c : Addr) (r : List Str), v = .ref c ∧ c ≠ F ∧ Z c = some (.lst (r.map V.str)) ∧ r.Perm xs := (k v hv).elim (h.ok v) id
    obtain ⟨c, r, e, n, q, pr⟩ := q
    exact ⟨c, r, e, n, by rw [upd_ne n]; exact q, pr⟩⟩
theorem rows_mem {Z : Hp} {xs : List Str} : ∀ {vs : List V}, (∀ v ∈ vs, ∃ (c : Addr) (r : List Str), v = .ref c ∧ Z c = some (.lst (r.map V.str)) ∧ r.Perm xs) → ∃ (cs : List Addr) (us : List (List Str)), vs = cs.map V.ref ∧ RowsAt Z cs us ∧ (∀ u ∈ us, u.Perm xs) ∧ us.length = vs.length
  | [], _ => ⟨[], [], rfl, .nil, (fun u hu => nomatch hu), rfl⟩
  | v :: vs, h => by
    obtain ⟨c, r, rfl, q, pr⟩ := h v List.mem_cons_self
    obtain ⟨cs, us, rfl, q2, q3, q4⟩ := rows_mem (vs := vs) fun y hy => h y (List.mem_cons_of_mem _ hy)
    exact ⟨c :: cs, r :: us, rfl, .cons q q2, fun u hu => (List.mem_cons.mp hu).elim (fun e => e ▸ pr) (q3 u), by rw [List.length_cons, List.length_cons, q4]⟩
def spOther : Sp := fun vs H Q _ => ∃ (p n R : Addr) (c : Nat) (xs : List Str) (as : List Addr) (rs : List (List Str)), vs = [.ref p, .ref n, .ref R] ∧ Purse H p c ∧ c ≤ 190000 ∧ H n = some (.lst (xs.map V.str)) ∧ H R = some (.lst (as.map V.ref)) ∧ RowsAt H as rs ∧ Good xs rs ∧ xs.length ≤ 6 ∧ rs.length ≤ 7 ∧
  ∀ (D : Addr) (cs : List Addr) (us : List (List Str)) (H' : Hp), H' D = some (.lst (cs.map V.ref)) → H D = none → RowsAt H' cs us → (∀ u ∈ us, u.Perm xs) → 1 ≤ us.length → us.length ≤ rs.length + 3 ∨ us.length ≤ 4 → Purse H' p (c + 300) → But p H H' → Q (.ref D) H'
section
variable {P : Program} {w : World} {K : PySem.W.Frag} {mg : Str → Option Value} {base : Heap} {C : Addr}
end
end G14

set_option maxHeartbeats 16000000
namespace G14
open PySem PySem.Spec PyProof.Rows L2 G1
theorem panO_of {K : PySem.W.Frag} {C : Addr} (h4 : ∀ T : String, T = "NoneType" ∨ T = "int" ∨ T = "list" ∨ T = "tuple" → PySem.W.kitOne K (.type T) (.ref C) = some false) (h3 : ∀ T ∈ (["str", "dict", "bool"] : List String), PySem.W.kitOne K (.type T) (.ref C) = some false) : PanO K C := by
  refine ⟨fun T hT => ?_⟩
  rcases hT with h | h | h | h | h | h | h
  · exact h4 T (.inl h)
  · exact h4 T (.inr (.inl h))
  · exact h4 T (.inr (.inr (.inl h)))
  · exact h4 T (.inr (.inr (.inr h)))
  · exact h3 T (by rw [h]; simp)
  · exact h3 T (by rw [h]; simp)
  · exact h3 T (by rw [h]; simp)
def spLaw (K : PySem.W.Frag) : Sp := fun vs H Q _ => ∃ (a : Addr) (ns : List Int), vs = [.ref a] ∧ SqL K H a (ns.map V.int) ∧ ∀ H', Q (.bl true) H'
theorem rows_apart {H : Hp} {D : Addr} {vs : List V} {cs : List Addr} {us : List (List Str)} {xs : List Str} (hD : H D = some (.lst vs)) (hv : ∀ v ∈ vs, ∀ z, v ≠ .str z) (l1 : 1 ≤ xs.length) (hcs : RowsAt H cs us) (hp : ∀ u ∈ us, u.Perm xs) : ∀ c ∈ cs, c ≠ D := fun c hc e => by
  obtain ⟨r, hr, q⟩ := hcs.strs hc
  rw [e, hD] at q
  have e2 := HO.lst.inj (Option.some.inj q)
  have lr := (hp r hr).length_eq
  cases r with
  | nil => simp at lr; omega
  | cons y z => exact hv (.str y) (by rw [e2]; exact List.mem_cons_self) y rfl
theorem ref_no_str {ws : List Rr} : ∀ v ∈ adrs ws, ∀ z, v ≠ .str z := fun v hv z e => by
  obtain ⟨w, _, rfl⟩ := List.mem_map.mp hv
  cases e
def dOf (xs : List Str) (rs : List (List Str)) : PyData := .list [rd xs, rsd rs, .int (rs.length : Int)]
theorem two_shaped {xs : List Str} {rs ts : List (List Str)} (g : Good xs rs) (h : Good xs ts) : SeqAt.shaped (.list [dOf xs rs, dOf xs ts]) = true :=
  (FineAll.cons (fine_three g) (FineAll.cons ((fine_three h).mono (Nat.le_refl _) (Nat.le_refl _)) (.nil 3 0))).list.shaped (by decide)
theorem two_eqv {xs : List Str} {rs ts : List (List Str)} : PyData.eqv (.list [dOf xs rs, dOf xs ts]) (.list [dOf xs rs, dOf xs ts]) = true := by
  have one : ∀ rs, PyData.eqv (dOf xs rs) (dOf xs rs) = true := fun rs => eqv_list fun d hd => by
    simp only [List.mem_cons, List.not_mem_nil, or_false] at hd
    rcases hd with rfl | rfl | rfl
    · rw [eqv_rd]
      exact decide_eq_true rfl
    · exact eqv_rsd
    · exact eqv_int
  refine eqv_list fun d hd => ?_
  simp only [List.mem_cons, List.not_mem_nil, or_false] at hd
  rcases hd with rfl | rfl
  · exact one _
  · exact one _
theorem one_fld {xs : List Str} (en : sortedS xs = true) (nd : xs.Nodup) (l1 : 1 ≤ xs.length) {H : Hp} {F : Addr} {m : Nat} (m1 : 1 ≤ m) (h : H F = some (.lst ((xs.take m).map V.str))) (le : xs.length ≤ 1000) : FieldAt H F xs (xs.take m) :=
  ⟨h, lot_subl (sorted_pw en) nd (List.take_sublist _ _), by rw [List.length_take]; omega, by rw [List.length_take]; omega⟩
section
variable {P : Program} {w : World} {K : PySem.W.Frag} {mg : Str → Option Value} {base : Heap} {C : Addr}
abbrev sLaw : Stmt := top 81
abbrev nLaw : List Str := ["_law_script", "_law_purse_here", "_law_names_here", "_law_rows", "_law_others", "_law_turn", "_law_one", "_law_other", "_law_way"]
theorem scLaw : FnScope nLaw ["_law_script"] (defScope sLaw) := ⟨rfl, rfl, rfl, by decide +kernel, rfl, by decide +kernel, by decide +kernel⟩
theorem ok_law {f : Addr} {fd : FuncData} (F : FnP K "law" sLaw f fd) (L : Lib K mg) (D__law_purses : Df P w K mg base 2 "_law_purses" sPurses ["_law_script", "_law_few"] (spPursesS K)) (D__law_draw : Df P w K mg base 2 "_law_draw" sDraw ["_law_purse_here", "_law_many"] spDraw) (D__law_names : Df P w K mg base 4 "_law_names" sNames ["_law_purse_here", "_law_many"] spNames) (D__law_rows_of : Df P w K mg base 4 "_law_rows_of" sRows ["_law_purse_here", "_law_names_here", "_law_many"] (spRows K)) (D__law_panel : Df P w K mg base 6 "_law_panel" sLPan ["_law_purse_here", "_law_names_here", "_law_rows"] (spLPan C)) (D__law_falls : Df P w K mg base 9 "_law_falls" sFalls ["_law_way", "_law_names_here", "_law_rows", "_law_one", "_law_other"] (spFalls K C)) (D__law_by_names : Df P w K mg base 7 "_law_by_names" sBN ["_law_one", "_law_other", "_law_names_here"] (spBN C)) (D__law_shown : Df P w K mg base 3 "_law_shown" sShown ["_law_panel_here"] (spShown C)) :
    FnG P w K mg base 10 f fd ["_law_script"] (spLaw K) := by
  refine gdN F scLaw (fun vs H Q E h => ?_) (fun cdv A outer s H vs Q Ex hg hr h => ?_)
  · obtain ⟨_, _, rfl, _⟩ := h
    rfl
  · obtain ⟨a, ns, rfl, hS, k⟩ := h
    have nd := scLaw.nd
    have hu := hr.units
    have hu1 : (A.deeper (envOfC "law" (defScope sLaw) s.heap.objs.size f cdv)).units + (0 + 1) < cLine := by omega
    have hu64 : (A.deeper (envOfC "law" (defScope sLaw) s.heap.objs.size f cdv)).units + 64 < cLine := by omega
    have r2 : Room 2 (A.deeper (envOfC "law" (defScope sLaw) s.heap.objs.size f cdv)) := hr.mono (by decide)
    have r3 : Room 3 (A.deeper (envOfC "law" (defScope sLaw) s.heap.objs.size f cdv)) := hr.mono (by decide)
    have r4 : Room 4 (A.deeper (envOfC "law" (defScope sLaw) s.heap.objs.size f cdv)) := hr.mono (by decide)
    have r6 : Room 6 (A.deeper (envOfC "law" (defScope sLaw) s.heap.objs.size f cdv)) := hr.mono (by decide)
    have r7 : Room 7 (A.deeper (envOfC "law" (defScope sLaw) s.heap.objs.size f cdv)) := hr.mono (by decide)
    have r9 : Room 9 (A.deeper (envOfC "law" (defScope sLaw) s.heap.objs.size f cdv)) := hr.mono (by decide)
    refine' ⟨_, pss_cons (ps_for PassesOwn.never rfl (pi_list (pe_df D__law_purses r2 (by rfl) (pa_cons (pv 0) (pa_cons pe_int pa_nil)))) (pg_name (i := 1) nd rfl (Or.inr rfl)) (pss_cons ?b0 (pss_cons ?b1 (pss_cons ?b2 (pss_cons ?b3 (pss_cons ?b4 (pss_one ?b5))))))) (pss_one (ps_ret pe_bl)), ?_⟩
    case b0 => exact (ps_set (i := 2) nd rfl (Or.inr rfl) (pe_df D__law_names r4 (by rfl) (pa_cons (pv 1) (pa_cons (pe_op op_add pe_int (pe_df D__law_draw r2 (by rfl) (pa_cons (pv 1) (pa_cons pe_int pa_nil)))) pa_nil))))
    case b1 => exact (ps_asg (pe_lc (own := [("_law_turn", 5)]) (g := gName 5) (tt := tYes) (te := (tCall (spRows K) [] E0 (tCons (tVar 1) (tCons (tVar 2) (tCons (tOp (rI0 fun i j => .int (i + j)) (tC (.int 1)) (tCall spDraw [] E0 (tCons (tVar 1) (tCons (tC (.int 3)) tNil)))) tNil))))) (by rfl) nd (pi_range1 (by rfl) L.range (pa_cons pe_int pa_nil))
        (blkOk_by (N := nLaw) (sc := (defScope sLaw)) (by decide +kernel)) (fun _ _ _ _ _ => (pg_name (i := 5) scLaw.nd rfl (Or.inl rfl))) (fun _ _ _ _ _ => pts_nil) (fun _ _ _ _ _ => (pe_df D__law_rows_of r4 (by rfl) (pa_cons (pv 1) (pa_cons (pv 2) (pa_cons (pe_op op_add pe_int (pe_df D__law_draw r2 (by rfl) (pa_cons (pv 1) (pa_cons pe_int pa_nil)))) pa_nil)))))) (pg_lst (n := 2) (by rfl) (pgs_cons (pg_name (i := 3) nd rfl (Or.inr rfl)) (pgs_cons (pg_name (i := 4) nd rfl (Or.inl rfl)) pgs_nil))))
    case b2 => exact (ps_asg (pe_tup (pa_cons (pe_df D__law_panel r6 (by rfl) (pa_cons (pv 1) (pa_cons (pv 2) (pa_cons (pv 3) pa_nil)))) (pa_cons (pe_df D__law_panel r6 (by rfl) (pa_cons (pv 1) (pa_cons (pv 2) (pa_cons (pv 4) pa_nil)))) pa_nil))) (pg_tup (n := 2) (by rfl) (pgs_cons (pg_name (i := 6) nd rfl (Or.inr rfl)) (pgs_cons (pg_name (i := 7) nd rfl (Or.inr rfl)) pgs_nil))))
    case b3 => exact (ps_if (pt_cmpR (op_neW (n := 0) hu1) (pe_lc (own := [("_law_way", 8)]) (g := gName 8) (tt := (tNot (tB (tCall (spFalls K C) [] E0 (tCons (tVar 8) (tCons (tVar 2) (tCons (tVar 3) (tCons (tVar 6) (tCons (tVar 7) tNil))))))))) (te := (tVar 8)) (by rfl) nd (pi_range1 (by rfl) L.range (pa_cons pe_int pa_nil))
        (blkOk_by (N := nLaw) (sc := (defScope sLaw)) (by decide +kernel)) (fun _ _ _ _ _ => (pg_name (i := 8) scLaw.nd rfl (Or.inl rfl))) (fun _ _ _ _ _ => (pts_one (pt_not (pt_val (pe_df D__law_falls r9 (by rfl) (pa_cons (pv 8) (pa_cons (pv 2) (pa_cons (pv 3) (pa_cons (pv 6) (pa_cons (pv 7) pa_nil)))))))))) (fun _ _ _ _ _ => (pv 8))) (pe_lst pa_nil) (by rfl)) (pss_one ps_never) pss_nil)
    case b4 => exact (ps_if (PW.pt (pw_or (pt_not (pt_val (pe_df D__law_by_names r7 (by rfl) (pa_cons (pv 6) (pa_cons (pv 7) (pa_cons (pv 2) pa_nil)))))) (pw_or1 (pt_not (pt_val (pe_df D__law_by_names r7 (by rfl) (pa_cons (pv 7) (pa_cons (pv 6) (pa_cons (pe_slice sl_list (pv 2) po_none (po_some pe_int)) pa_nil))))))))) (pss_one ps_never) pss_nil)
    case b5 => exact (ps_if (pt_cmpR (op_neD hu64) (pe_lst (pa_cons (pe_df D__law_shown r3 (by rfl) (pa_cons (pv 6) pa_nil)) (pa_cons (pe_df D__law_shown r3 (by rfl) (pa_cons (pv 7) pa_nil)) pa_nil))) (pe_lst (pa_cons (pe_lst (pa_cons (pv 2) (pa_cons (pv 3) (pa_cons (pe_callB call_len_seq (by rfl) L.len PySem.boot_len (pa_cons (pv 3) pa_nil)) pa_nil)))) (pa_cons (pe_lst (pa_cons (pv 2) (pa_cons (pv 4) (pa_cons (pe_callB call_len_seq (by rfl) L.len PySem.boot_len (pa_cons (pv 4) pa_nil)) pa_nil)))) pa_nil))) (nomark _)) (pss_one ps_never) pss_nil)
    refine ⟨_, rfl, a, 1, ns, rfl, hS, by decide, fun D2 ps H1 nD hD hps lps s1 => ?_⟩
    have lp1 : ps.length ≤ 1 := by omega
    refine ⟨D2, rfl, ⟨_, SqL.of hD⟩, for_list (K := K) (a := D2) (xs := ps.map V.ref) (fun i σ H' => ∃ o1 o2 o3 o4 o5 o6 o7 o8 : Option V, σ = [some (.ref a), o1, o2, o3, o4, o5, o6, o7, o8] ∧ H' D2 = some (.lst (ps.map V.ref)) ∧ ∀ p ∈ ps, Purse H' p (5000 * i) ∧ p ≠ D2)
      ⟨none, none, none, none, none, none, none, none, rfl, hD, fun p hp => ⟨(hps p hp).1, (ne_purse hD ref_no_int (hps p hp).1).symm⟩⟩ (fun i σ H' _ h => by obtain ⟨_, _, _, _, _, _, _, _, _, h, _⟩ := h; exact SqL.of h) ?_ ?_⟩
    · rintro i y σ H2 hi ⟨o1, o2, o3, o4, o5, o6, o7, o8, rfl, hD2, hp2⟩
      have hi1 : i < ps.length := by
        have := (List.getElem?_eq_some_iff.mp hi).1
        rw [List.length_map] at this
        exact this
      rw [List.getElem?_map] at hi
      obtain ⟨p, hpm', rfl⟩ := Option.map_eq_some_iff.mp hi
      have hpm := List.mem_of_getElem? hpm'
      obtain ⟨hpp, npD⟩ := hp2 p hpm
      have e2 : 2 ≤ sizeLine := by decide
      refine ⟨_, rfl, _, rfl, p, 4, 5000 * i, rfl, by decide, by decide, hpp, by omega, fun q1 H3 q10 q11 hp3 b3 => ⟨_, _, rfl, rfl, p, 2 + q1, 5000 * i + 3, rfl, by omega, by omega, hp3, by omega, fun n xs H4 en hl2 hn nn hp4 b4 => ?_⟩⟩
      have npn : n ≠ p := ne_purse hn str_no_int hp4
      have x2 : 2 ≤ xs.length := by omega
      have x5 : xs.length ≤ 5 := by omega
      have bA := b3.trans b4
      have hpA := hp4.mono (show _ ≤ 5000 * i + 400 by omega)
      clear b3 b4 hp3 nn hl2 q10 q11 hpp hp4
      have good : ∀ {rs : List (List Str)}, (∀ r ∈ rs, r.Perm xs) → 1 ≤ rs.length → rs.length ≤ 10 → Good xs rs := fun h1 h2 h3 => ⟨en.nm, en.nd, by omega, by omega, en.so, h1, h2, h3⟩
      -- two times rows
      refine ⟨2, rfl, by decide, by decide, fun DD nDD => lc_range (lo := 0) (n := 2) (fun j H' => ∃ ws : List Rr, H' DD = some (.lst (adrs ws)) ∧ ws.length = j ∧ (∀ w ∈ ws, RwA (delH H' DD) w.1 w.2.1 w.2.2 ∧ Good xs w.2.2 ∧ w.2.2.length ≤ 3) ∧ Purse H' p (5000 * i + 400 + 400 * j) ∧ But p H4 (delH H' DD))
        ⟨[], upd_same, rfl, (fun w hw => nomatch hw), hpA.same (sn nDD), fun b o _ e => same_del (sn nDD) nDD b o e⟩ ?_ ?_⟩
      · rintro j H5 lj ⟨ws, h1, h2, h3, h4, h5⟩
        have npDD : p ≠ DD := fun e => by
          obtain ⟨v, hv, _⟩ := hpA
          rw [e, nDD] at hv
          cases hv
        have b5 : But p H4 H5 := h5.trans (But.same del_sub)
        refine ⟨rfl, _, rfl, _, rfl, _, rfl, p, 3, _, rfl, by decide, by decide, h4, by omega, fun q3 H6 q30 q31 hp6 b6 => ⟨_, _, rfl, rfl, p, n, 1 + q3, _, xs, rfl, by omega, by omega, hp6, by omega, SqL.of ((b5.trans b6) _ _ npn hn), npn, en.nd, by omega, by omega, fun R as rs H7 hR nR has ncs hlr hrp hp7 b7 => ?_⟩⟩
        have lr1 : 1 ≤ rs.length := by omega
        have lr3 : rs.length ≤ 3 := by omega
        have gA : Good xs rs := good hrp lr1 (by omega)
        have hDD6 := b6 _ _ (Ne.symm npDD) h1
        have hDD7 := b7 _ _ (Ne.symm npDD) hDD6
        have nRD : R ≠ DD := fun e => by
          rw [e, hDD6] at nR
          cases nR
        have ncD := rows_apart hDD7 ref_no_str (by omega) has hrp
        have sU : ∀ {o : HO}, Same (delH H7 DD) (delH (upd H7 DD o) DD) := del_upd
        have b67 := b6.trans b7
        have b67d := but_del (D := DD) b67
        have new : RwA (delH H7 DD) R as rs := ⟨by rw [delH_ne nRD]; exact hR, has.keep fun c hc o e => by rw [delH_ne (ncD c hc)]; exact e⟩
        refine ⟨_, hDD7, small1000 (by rw [List.length_map]; omega), ws ++ [(R, as, rs)], by rw [upd_same]; unfold adrs; rw [List.map_append]; rfl, by rw [List.length_append, h2]; rfl, fun w hw => ?_, ?_, ?_⟩
        · rcases List.mem_append.mp hw with h | h
          · obtain ⟨a1, a2, a3⟩ := h3 w h
            exact ⟨(a1.but (h4.del npDD) b67d).same sU, a2, a3⟩
          · obtain rfl := List.mem_singleton.mp h
            exact ⟨new.same sU, gA, lr3⟩
        · exact (hp7.but (But.upd (p := DD)) npDD).mono (by omega)
        · exact (h5.trans b67d).trans (But.same sU)
      rintro H7 ⟨ws, h1, h2, h3, h4, h5⟩
      have b7 : But p H4 H7 := h5.trans (But.same del_sub)
      obtain ⟨⟨R, as, rs⟩, ⟨S, bs, ts⟩, rfl⟩ : ∃ w1 w2, ws = [w1, w2] := match ws, h2 with
        | [w1, w2], _ => ⟨w1, w2, rfl⟩
      obtain ⟨ra1, gA, lr3⟩ := h3 _ (.head _)
      obtain ⟨ra2, gB, ls3⟩ := h3 _ (.tail _ (.head _))
      replace lr3 : rs.length ≤ 3 := lr3
      replace ls3 : ts.length ≤ 3 := ls3
      replace gA : Good xs rs := gA
      replace gB : Good xs ts := gB
      have rR7 : RwA H7 R as rs := ra1.same del_sub
      have rS7 : RwA H7 S bs ts := ra2.same del_sub
      have hp7 : Purse H7 p (5000 * i + 1200) := h4
      have hn7 := b7 _ _ npn hn
      have bC := bA.trans b7
      refine ⟨DD, _, rfl, SqL.of h1, rfl, _, _, rfl, _, _, rfl, rfl, ?_⟩
      clear h3 h4 h5 h2 ra1 ra2 b7 hpA nDD h1 hn bA
      -- their panels
      refine ⟨_, rfl, _, rfl, _, rfl, p, n, R, _, xs, as, rs, rfl, hp7, by omega, hn7, rR7.rw, rR7.ra, gA, fun N1 H8 f1 nN1 hp8 b8 => ?_⟩
      have rR8 := rR7.but hp7 b8
      have rS8 := rS7.but hp7 b8
      have hn8 := b8 _ _ npn hn7
      refine ⟨_, rfl, _, rfl, _, rfl, p, n, S, _, xs, bs, ts, rfl, hp8, by omega, hn8, rS8.rw, rS8.ra, gB, fun N2 H9 f2 nN2 hp9 b9 => ⟨e2, fun t nt => ⟨t, _, rfl, SqT.of upd_same, rfl, _, _, rfl, _, _, rfl, rfl, ?_⟩⟩⟩
      have st := sn nt (o := .tup [.ref N1, .ref N2])
      have pn1 : PanF (upd H9 t (.tup [.ref N1, .ref N2])) C N1 xs rs := ((f1.same new_sub).but hp8 b9).same st
      have pn2 : PanF (upd H9 t (.tup [.ref N1, .ref N2])) C N2 xs ts := (f2.same new_sub).same st
      have rR9 := (rR8.but hp8 b9).same st
      have rS9 := (rS8.but hp8 b9).same st
      have hn9 := st _ _ (b9 _ _ npn hn8)
      have bD := (bC.trans (b8.trans b9)).trans (But.same st)
      have hpD := hp9.same st
      generalize upd H9 t (.tup [.ref N1, .ref N2]) = H10 at pn1 pn2 rR9 rS9 hn9 bD hpD ⊢
      clear rR7 rS7 hn7 hp7 b8 rR8 rS8 hn8 hp8 b9 bC f1 f2 nN1 nN2 st nt hp9
      have fi : Fine2 C H10 N1 N2 xs rs ts := ⟨pn1, pn2, gA.rw, gB.rw, by omega, by omega, en.nm, by omega⟩
      have fj : Fine2 C H10 N2 N1 xs ts rs := ⟨pn2, pn1, gB.rw, gA.rw, by omega, by omega, en.nm, by omega⟩
      -- what falls
      refine ⟨8, rfl, by decide, by decide, fun E1 nE1 => lc_range (lo := 0) (n := 8) (fun j H' => H' E1 = some (.lst []) ∧ Same H10 H') ⟨upd_same, sn nE1⟩ ?_ ?_⟩
      · rintro j H' lj ⟨u1, u2⟩
        refine ⟨rfl, _, rfl, _, rfl, _, rfl, _, rfl, _, rfl, j, n, R, N1, N2, xs, as, rs, rs, ts, by rw [Int.zero_add]; rfl, lj, fi.same u2, u2 _ _ hn9, u2 _ _ rR9.rw, rR9.ra.same u2, gA, x2, x5, fun H'' s => ⟨_, rfl, iteF ⟨s _ _ u1, u2.trans s⟩⟩⟩
      rintro H11 ⟨u1, u2⟩
      refine ⟨Nat.zero_le _, fun l nl => ?_⟩
      have sl := sn nl (o := .lst [])
      refine ⟨true, ⟨E1, l, [], [], rfl, rfl, SqL.of (sl _ _ u1), SqL.of upd_same, .inr ⟨rfl, fun _ => true, (fun i x y h => nomatch h), rfl⟩⟩, _, rfl, iteF ?_⟩
      have s12 := u2.trans sl
      generalize upd H11 l (.lst []) = H12 at s12 ⊢
      clear u1 u2 sl nl nE1
      -- by names
      have fx : FieldAt H12 n xs (xs.take xs.length) := one_fld en.so en.nd (by omega) (by omega) (by rw [List.take_length]; exact s12 _ _ hn9) (by omega)
      refine ⟨_, rfl, _, rfl, _, rfl, N1, N2, n, xs, _, rs, ts, rfl, fi.same s12, fx, fun H13 s13 => ⟨_, rfl, iteF ?_⟩⟩
      have z13 := s12.trans s13
      refine ⟨_, rfl, _, rfl, _, rfl, _, rfl, n, _, rfl, SqL.of (z13 _ _ hn9), fun F nF => ?_⟩
      have ec : cutV (xs.map V.str) none (some (1 : Int)) = (xs.take 1).map V.str := (cut_any (m := 1)).trans (by rw [← List.map_take])
      rw [ec]
      have sF := sn nF (o := .lst ((xs.take 1).map V.str))
      refine ⟨N2, N1, F, xs, _, ts, rs, rfl, fj.same (z13.trans sF), one_fld en.so en.nd (by omega) (m := 1) (Nat.le_refl _) upd_same (by omega), fun H14 s14 => ⟨_, rfl, iteF ?_⟩⟩
      have z14 := (z13.trans sF).trans s14
      -- shown as before
      have rRX := rR9.same z14
      have rSX := rS9.same z14
      have hnX := z14 _ _ hn9
      refine ⟨_, rfl, N1, xs, rs, rfl, pn1.same z14, fun D1 E1 R1 cs1 HY sY hD1 hE1 hR1 hcs1 => ?_⟩
      refine ⟨_, rfl, N2, xs, ts, rfl, (pn2.same z14).same sY, fun D3 E3 R3 cs3 HZ sZ hD3 hE3 hR3 hcs3 => ⟨e2, fun T1 nT1 => ?_⟩⟩
      have sT1 := sn nT1 (o := .lst [.ref D1, .ref D3])
      have q1 : Same (newH H14 HY) (upd HZ T1 (.lst [.ref D1, .ref D3])) := new_sub.trans (sZ.trans sT1)
      have q3 : Same (newH HY HZ) (upd HZ T1 (.lst [.ref D1, .ref D3])) := new_sub.trans sT1
      have dpL : Dp K (upd HZ T1 (.lst [.ref D1, .ref D3])) (.ref T1) (.list [dOf xs rs, dOf xs ts]) := .lst (SqL.of upd_same) (.cons (dp_same q1 (.lst (SqL.of hD1) (.cons (dp_row hE1) (.cons (dp_rows hR1 hcs1) (.cons (.int _) .nil))))) (.cons (dp_same q3 (.lst (SqL.of hD3) (.cons (dp_row hE3) (.cons (dp_rows hR3 hcs3) (.cons (.int _) .nil))))) .nil))
      have sA := z14.trans (sY.trans (sZ.trans sT1))
      generalize upd HZ T1 (.lst [.ref D1, .ref D3]) = HA at dpL sA ⊢
      clear q1 q3 sT1 sY sZ
      have rRA := rR9.same sA
      have rSA := rS9.same sA
      have lra := rRA.ra.len
      have lrs := rSA.ra.len
      have hnA := sA _ _ hn9
      refine ⟨_, rfl, _, rfl, _, rfl, R, as.map V.ref, rfl, .inl (SqL.of rRA.rw), (show 3 ≤ sizeLine by decide), fun X1 nX1 => ?_⟩
      rw [List.length_map, lra]
      have sX1 := sn nX1 (o := .lst [.ref n, .ref R, .int (rs.length : Int)])
      have hX1 : upd HA X1 (.lst [.ref n, .ref R, .int (rs.length : Int)]) X1 = some (.lst [.ref n, .ref R, .int (rs.length : Int)]) := upd_same
      generalize upd HA X1 (.lst [.ref n, .ref R, .int (rs.length : Int)]) = HB at sX1 hX1 ⊢
      have rSB := rSA.same sX1
      refine ⟨_, rfl, _, rfl, _, rfl, S, bs.map V.ref, rfl, .inl (SqL.of rSB.rw), (show 3 ≤ sizeLine by decide), fun X2 nX2 => ?_⟩
      rw [List.length_map, lrs]
      have sX2 := sn nX2 (o := .lst [.ref n, .ref S, .int (ts.length : Int)])
      have hX2 : upd HB X2 (.lst [.ref n, .ref S, .int (ts.length : Int)]) X2 = some (.lst [.ref n, .ref S, .int (ts.length : Int)]) := upd_same
      generalize upd HB X2 (.lst [.ref n, .ref S, .int (ts.length : Int)]) = HC at sX2 hX2 ⊢
      refine ⟨e2, fun X3 nX3 => ?_⟩
      have sX3 := sn nX3 (o := .lst [.ref X1, .ref X2])
      have hX3 : upd HC X3 (.lst [.ref X1, .ref X2]) X3 = some (.lst [.ref X1, .ref X2]) := upd_same
      generalize upd HC X3 (.lst [.ref X1, .ref X2]) = HD at sX3 hX3 ⊢
      have s13 := sX1.trans (sX2.trans sX3)
      have rRD := rRA.same s13
      have rSD := rSA.same s13
      have hnD := s13 _ _ hnA
      have dpR : Dp K HD (.ref X3) (.list [dOf xs rs, dOf xs ts]) := .lst (SqL.of hX3) (.cons (.lst (SqL.of ((sX2.trans sX3) _ _ hX1)) (.cons (dp_row hnD) (.cons (dp_rows rRD.rw rRD.ra) (.cons (.int _) .nil)))) (.cons (.lst (SqL.of (sX3 _ _ hX2)) (.cons (dp_row hnD) (.cons (dp_rows rSD.rw rSD.ra) (.cons (.int _) .nil)))) .nil))
      have sh := two_shaped gA gB
      refine ⟨_, _, dp_same s13 dpL, dpR, sh, sh, _, rfl, ?_⟩
      rw [two_eqv]
      refine iteF ?_
      have bF := bD.trans (But.same (sA.trans s13))
      have hpF := hpD.same (sA.trans s13)
      refine ⟨_, _, _, _, _, _, _, _, rfl, bF _ _ (Ne.symm npD) hD2, fun q hq => ?_⟩
      obtain ⟨hq2, nqD⟩ := hp2 q hq
      refine ⟨?_, nqD⟩
      by_cases e : q = p
      · rw [e]
        exact hpF.mono (by omega)
      · exact (hq2.but bF e).mono (by omega)
    · rintro σ H2 ⟨o1, o2, o3, o4, o5, o6, o7, o8, rfl, _, _⟩
      exact k _
end
end G14

set_option maxHeartbeats 4000000
namespace G14
open PySem PySem.Spec PyProof.Rows L2 G1
/-! ### what the head's run tells of the classes, as truth values -/
def exB (K : PySem.W.Frag) (C : Addr) : Bool :=
  He.eqO (PySem.W.findIn K (.ref C) "__getattribute__") (some (some (.builtin "BaseException.__getattribute__"))) && (He.eqO (PySem.W.findIn K (.ref C) "__getattr__") (some none) &&
  (decide (PySem.W.subIn K (.ref C) (.type "BaseException") = some true) && (PySem.W.hasDictIn K C && (He.eqO (PySem.W.findIn K (.ref C) "__class__") (some (some (.builtin "object.__class__"))) &&
  (He.eqO (PySem.W.specialIn K (.builtin "object.__class__") "__get__") (some (some (.builtin "getset_descriptor.__get__"))) && (decide (PySem.W.takesIn K (.builtin "object.__class__") = some true) &&
  decide (PySem.W.mroIn K C (.type "object") = some true)))))))
theorem exB_ok {K : PySem.W.Frag} {C : Addr} (h : exB K C = true) : ExcC K C := by
  obtain ⟨h1, h⟩ := He.ba h
  obtain ⟨h2, h⟩ := He.ba h
  obtain ⟨h3, h⟩ := He.ba h
  obtain ⟨h4, h⟩ := He.ba h
  obtain ⟨h5, h⟩ := He.ba h
  obtain ⟨h6, h⟩ := He.ba h
  obtain ⟨h7, h8⟩ := He.ba h
  exact ⟨He.eqO_ok h1, He.eqO_ok h2, of_decide_eq_true h3, h4, He.eqO_ok h5, He.eqO_ok h6, of_decide_eq_true h7, of_decide_eq_true h8⟩
def clsB (K : PySem.W.Frag) (C : Addr) : Bool := match K.lookup C with
  | some ⟨.type c, _, .cls cd, sl⟩ => (match cd.mro, sl.toList with
    | .ref C' :: bm, [_, _, _, _, some (.builtin n), _] => decide (c = "type") && (decide (C' = C) && (decide (n = "ValueError.__new__") && (!cd.hasDel && (cd.hasDict && PySem.HandSPX.refsVE bm))))
    | _, _ => false)
  | _ => false
theorem clsB_ok {K : PySem.W.Frag} {C : Addr} (h : clsB K C = true) : ∃ nm q N bs bm sn sub ab col dd k0 k1 k2 k3 k5, K.lookup C = some (excClassObj nm q C N bs bm true sn sub ab col dd k0 k1 k2 k3 k5 "ValueError.__new__") ∧ PySem.HandSPX.refsVE bm = true := by
  unfold clsB at h
  split at h
  · rename_i c dd cd sl ho
    split at h
    · rename_i C' bm k0 k1 k2 k3 n k5 hm hs
      obtain ⟨h1, h⟩ := He.ba h
      obtain ⟨h2, h⟩ := He.ba h
      obtain ⟨h3, h⟩ := He.ba h
      obtain ⟨h4, h⟩ := He.ba h
      obtain ⟨h5, h6⟩ := He.ba h
      have e1 := of_decide_eq_true h1
      have e2 := of_decide_eq_true h2
      have e3 := of_decide_eq_true h3
      subst e1 e2 e3
      obtain ⟨nm0, bs, mro, ns, qn, hd, sn, sub, ab, col, del⟩ := cd
      dsimp only at hm h4 h5
      subst hm h5
      have e4 : del = false := by simpa using h4
      subst e4
      have es : sl = #[k0, k1, k2, k3, some (.builtin "ValueError.__new__"), k5] := by
        obtain ⟨l⟩ := sl
        simp only at hs
        rw [hs]
      subst es
      exact ⟨nm0, qn, ns, bs, bm, sn, sub, ab, col, dd, k0, k1, k2, k3, k5, ho, h6⟩
    · cases h
  · cases h
def ecB (K : PySem.W.Frag) (x : Str) : Bool :=
  clsB K (ga K x) && (He.eqO (PySem.W.findIn K (.ref (ga K x)) "__setattr__") (some (some (.builtin "object.__setattr__"))) && (decide (PySem.W.typeIn K (.ref (ga K x)) = some (.type "type")) && (PySem.W.keepIn K (.ref (ga K x)) &&
  (He.eqO (PySem.W.findIn K (.ref (ga K x)) "value") (some none) && (He.eqO (PySem.W.findIn K (.ref (ga K x)) "__init__") (some (some (.ref (He.ma K (ga K x) "__init__")))) && decide (PySem.W.typeIn K (.ref (He.ma K (ga K x) "__init__")) = some (.type "function")))))))
theorem ecB_ok {K : PySem.W.Frag} {x : Str} (h : ecB K x = true) (e : ExcC K (ga K x)) : EC K (ga K x) (He.ma K (ga K x) "__init__") := by
  obtain ⟨h1, h⟩ := He.ba h
  obtain ⟨h2, h⟩ := He.ba h
  obtain ⟨h3, h⟩ := He.ba h
  obtain ⟨h4, h⟩ := He.ba h
  obtain ⟨h5, h⟩ := He.ba h
  obtain ⟨h6, h7⟩ := He.ba h
  exact ⟨⟨clsB_ok h1, He.eqO_ok h2, e.hs, of_decide_eq_true h3, h4⟩, e, He.eqO_ok h5, He.eqO_ok h6, of_decide_eq_true h7⟩
/-! ### Panel -/
def four : List String := ["NoneType", "int", "list", "tuple"]
def panB (K : PySem.W.Frag) : Bool :=
  (He.Fa.cls "Panel").ok K && ((He.Fa.noat "Panel" "_entries").ok K && ((He.Fa.noat "Panel" "_rows").ok K && ((He.Fa.meth "Panel" "entries").ok K && ((He.Fa.meth "Panel" "rows").ok K && ((He.Fa.meth "Panel" "__len__").ok K && ((He.Fa.meth "Panel" "__eq__").ok K && ((He.Fa.mkr "Panel").ok K &&
  (He.eqO (PySem.W.findIn K (.ref (ga K "Panel")) "__class__") (some (some (.builtin "object.__class__"))) && (He.eqO (PySem.W.specialIn K (.builtin "object.__class__") "__get__") (some (some (.builtin "getset_descriptor.__get__"))) &&
  (decide (PySem.W.takesIn K (.builtin "object.__class__") = some true) && (decide (PySem.W.mroIn K (ga K "Panel") (.type "object") = some true) && (decide (PySem.W.kitOne K (.ref (ga K "Panel")) (.ref (ga K "Panel")) = some true) &&
  ((four.all fun T => decide (PySem.W.kitOne K (.type T) (.ref (ga K "Panel")) = some false)) && (He.eqO (PySem.W.findIn K (.ref (ga K "Panel")) "__ne__") (some (some (.builtin "object.__ne__"))) && (decide (PySem.W.subIn K (.ref (ga K "Panel")) (.type "object") = some true) &&
  (PySem.W.notFirst K (ga K "Panel") (.ref (ga K "Panel")) && four.all fun T => PySem.W.notFirst K (ga K "Panel") (.type T)))))))))))))))))
theorem four_of {T : String} (h : T = "NoneType" ∨ T = "int" ∨ T = "list" ∨ T = "tuple") : T ∈ four := by
  unfold four
  rcases h with rfl | rfl | rfl | rfl <;> simp
structure PanHd (K : PySem.W.Frag) : Prop where
  y : PanY K (ga K "Panel") (He.ma K (ga K "Panel") "__eq__")
  en : Meth K (ga K "Panel") "entries" (He.ma K (ga K "Panel") "entries")
  rw : Meth K (ga K "Panel") "rows" (He.ma K (ga K "Panel") "rows")
  ln : Meth K (ga K "Panel") "__len__" (He.ma K (ga K "Panel") "__len__")
  mkr : Mk K (ga K "Panel") (He.ma K (ga K "Panel") "__init__")
theorem panB_ok {K : PySem.W.Frag} (h : panB K = true) : PanHd K := by
  obtain ⟨h1, h⟩ := He.ba h
  obtain ⟨h2, h⟩ := He.ba h
  obtain ⟨h3, h⟩ := He.ba h
  obtain ⟨h4, h⟩ := He.ba h
  obtain ⟨h5, h⟩ := He.ba h
  obtain ⟨h6, h⟩ := He.ba h
  obtain ⟨h7, h⟩ := He.ba h
  obtain ⟨h8, h⟩ := He.ba h
  obtain ⟨h9, h⟩ := He.ba h
  obtain ⟨h10, h⟩ := He.ba h
  obtain ⟨h11, h⟩ := He.ba h
  obtain ⟨h12, h⟩ := He.ba h
  obtain ⟨h13, h⟩ := He.ba h
  obtain ⟨h14, h⟩ := He.ba h
  obtain ⟨h15, h⟩ := He.ba h
  obtain ⟨h16, h⟩ := He.ba h
  obtain ⟨h17, h18⟩ := He.ba h
  have mq := He.meth_ok h7
  have pc : PanC K (ga K "Panel") := ⟨He.cls_ok h1, He.noat_ok h2, He.noat_ok h3⟩
  have px : PanX K (ga K "Panel") := { toPanC := pc, cc := He.eqO_ok h9, sg := He.eqO_ok h10, tk := of_decide_eq_true h11, mo := of_decide_eq_true h12, me := of_decide_eq_true h13, no := fun T hT => of_decide_eq_true (List.all_eq_true.mp h14 T (four_of hT)) }
  exact ⟨{ toPanX := px, eq := mq.at_, fn := mq.fn, ne := He.eqO_ok h15, ob := of_decide_eq_true h16, nm := h17, nt := fun T hT => List.all_eq_true.mp h18 T (four_of hT) }, He.meth_ok h4, He.meth_ok h5, He.meth_ok h6, He.mkr_ok h8⟩
/-! ### all -/
def errsL : List (Nat × Str) := [(3, "InvalidEntries"), (4, "InvalidRows"), (5, "InvalidPanel"), (9, "Unlike")]
def errs : List Str := errsL.map (·.2)
def frees : List Str := ["sum", "max", "min", "len", "range", "zip", "enumerate", "int", "bool", "list", "set", "sorted", "all", "isinstance", "str", "repr", "dict", "tuple", "any", "reversed"]
def allL : List (Nat × Str) := ([(12, "is_name"), (13, "is_count"), (14, "is_ascending"), (15, "are_unlike_names"), (16, "is_lot"), (17, "is_field"), (18, "is_row"), (19, "are_rows"), (20, "check_entries"), (21, "check_rows"), (22, "check_entry"), (23, "check_position"), (24, "check_field"), (25, "bits_of"), (26, "lot_of"), (27, "united"), (28, "masks_ahead"), (29, "holds_one"), (30, "least_masks"), (33, "check_panel")] : List (Nat × Str)) ++ ([(34, "check_panels"), (35, "first_there"), (36, "cards_on"), (37, "cards"), (38, "ahead"), (39, "ahead_masks"), (41, "least_by"), (42, "least_ahead"), (43, "least_of"), (44, "sorted_lots"), (45, "least_lots"), (47, "lots_met"), (48, "shortest_meeting"), (49, "one_more"), (51, "within"), (52, "alike"), (53, "beyond"), (54, "bad_row"), (55, "field_beyond"), (56, "parting_field")] : List (Nat × Str)) ++ ([(57, "is_parting_field"), (58, "sizes_beyond"), (59, "parting_size"), (60, "once_ahead"), (61, "parting_pairs"), (63, "_law_purse"), (64, "_law_mixed"), (65, "_law_draw"), (66, "_law_purses"), (67, "_law_shuffled"), (68, "_law_word"), (69, "_law_names"), (70, "_law_rows_of"), (71, "_law_panel"), (72, "_law_shown"), (73, "_law_strange"), (74, "_law_called"), (75, "_law_fell"), (76, "_law_is_held"), (77, "_law_odds")] : List (Nat × Str)) ++ ([(78, "_law_unlike"), (79, "_law_falls"), (80, "_law_by_names"), (81, "law")] : List (Nat × Str))
def xmeths : List Str := []
def globs : List Str := errs ++ ((["Panel"] : List Str) ++ allL.map (·.2))
def caught : List Str := ["InvalidPanel", "Unlike"]
def kits : List String := ["str", "dict", "bool"]
def extraB (K : PySem.W.Frag) : Bool := (caught.all fun x => caught.all fun y => decide (PySem.W.exmOne K (.ref (ga K x)) (.ref (ga K y)) = some (decide (x = y)))) && kits.all fun T => decide (PySem.W.kitOne K (.type T) (.ref (ga K "Panel")) = some false)
def allB (K : PySem.W.Frag) : Bool :=
  (frees.all fun x => (He.Fa.free x).ok K) && ((He.Fa.int "LONGEST_NAME" 8).ok K && ((globs.all fun x => (He.Fa.glo x).ok K) && ((errs.all fun x => exB K (ga K x)) && ((errs.all fun x => ecB K x) && (panB K && (xmeths.all (fun m => (He.Fa.meth "Panel" m).ok K) && extraB K))))))
/-! ### the defs -/
def initS (i : Nat) : Stmt := match top i with
  | .ClassDef _ _ _ body .. => body.getD 0 (.Pass ⟨0, 0, 0, 0⟩)
  | s => s
def dInit (i : Nat) (x : Str) : He.DefD := ⟨(x, some "__init__"), "__init__", x ++ ".__init__", defArgs (initS i), defBody (initS i), defScope (initS i), [.non], []⟩
def dDef (p : Nat × Str) : He.DefD := ⟨(p.2, none), p.2, p.2, defArgs (top p.1), defBody (top p.1), defScope (top p.1), [], []⟩
def methL : List (Nat × Str) := [(0, "__init__"), (1, "entries"), (2, "rows"), (3, "__len__"), (4, "__eq__")]
def dMeth (p : Nat × Str) : He.DefD := ⟨("Panel", some p.2), p.2, "Panel." ++ p.2, defArgs (methS p.1), defBody (methS p.1), defScope (methS p.1), [], []⟩
def fns : List He.DefD := (errsL.map fun p => dInit p.1 p.2) ++ (methL.map dMeth ++ allL.map dDef)
end G14

set_option maxHeartbeats 0
namespace G14
open PySem PySem.Spec PyProof.Rows L2 G1
/-- what can be come to from the program's names, each looked at once -/
def asF (g : Addr → Option Obj) : Nat → List Addr → List Addr → List Addr
  | 0, as, _ => as
  | n + 1, as, fr => (fun new => asF g n (as ++ new) new) ((fr.flatMap fun a => match g a with
      | some o => He.refsD o
      | none => []).eraseDups.filter fun a => !as.elem a)
def asB (g : Addr → Option Obj) : List Addr := asF g 5 [mainGlobals] [mainGlobals]
abbrev AlM : Type := Bool × List He.FnW
def obsM (K : PySem.W.Frag) : AlM := (allB K && fns.all fun d => d.ok K, fns.map fun d => He.fnW K d.at_)
def valM : AlM := (true, fns.map He.DefD.val)
def obsG (g : Addr → Option Obj) : AlM := obsM (He.frG g (asB g))
def hk : PySem.W.Hook where
  α := AlM
  obs := fun s => obsG s.heap.get?
  val := fun _ => valM
  says := fun _ h => ∃ K : PySem.W.Frag, K.In h ∧ obsM K = valM
  of := fun _ _ e => ⟨_, He.frG_in, e⟩
  keeps := fun _ _ _ ⟨K, hK, c⟩ k => ⟨K, PySem.W.Frag.In.keeps hK k, c⟩
def ob (s : PySem.W.SharedT) : AlM := obsG (HandSHeadRun.getT s)
theorem ob_eq (s : PySem.W.SharedT) : ob s = hk.obs s.abs := by
  have e : HandSHeadRun.getT s = s.abs.heap.get? := funext (HandSHeadRun.getT_eq s)
  unfold ob
  rw [e]
  rfl
abbrev R : PySem.W.OpenRow := PySem.W.OpenLaw.row PySem.Challenge.rw_cardpanel_k14_alike_refused_and_by_name
def others : List Str := (["_wall", "ShowError", "InvalidEntries", "InvalidRows", "InvalidPanel", "InvalidField", "UnknownEntry", "InvalidCount", "Unlike", "LONGEST_NAME", "is_name", "is_count", "is_ascending", "are_unlike_names", "is_lot", "is_field", "is_row", "are_rows", "check_entries", "check_rows"] : List Str) ++ (["check_entry", "check_position", "check_field", "bits_of", "lot_of", "united", "masks_ahead", "holds_one", "least_masks", "Panel", "check_panel", "check_panels", "first_there", "cards_on", "cards", "ahead", "ahead_masks", "least_by", "least_ahead", "least_of"] : List Str) ++ (["sorted_lots", "least_lots", "lots_met", "shortest_meeting", "one_more", "within", "alike", "beyond", "bad_row", "field_beyond", "parting_field", "is_parting_field", "sizes_beyond", "parting_size", "once_ahead", "parting_pairs", "_law_purse", "_law_mixed", "_law_draw", "_law_purses"] : List Str) ++ (["_law_shuffled", "_law_word", "_law_names", "_law_rows_of", "_law_panel", "_law_shown", "_law_strange", "_law_called", "_law_fell", "_law_is_held", "_law_odds", "_law_unlike", "_law_falls", "_law_by_names"] : List Str)
/-! the facts by parts, each by a run of its own -/
def okP (K : PySem.W.Frag) (l : List He.DefD) : AlM := (l.all fun d => d.ok K, l.map fun d => He.fnW K d.at_)
def comb (a b : AlM) : AlM := (a.1 && b.1, a.2 ++ b.2)
theorem okP_app {K : PySem.W.Frag} {a b : List He.DefD} : okP K (a ++ b) = comb (okP K a) (okP K b) := by
  unfold okP comb
  rw [List.all_append, List.map_append]
open PySem.W HandSHeadRun in
def RunV (obv : PySem.W.SharedT → AlM) (v : AlM) (w : World) : Prop :=
  ∀ os : OsState, (endF (stepQ (denQ tabQ) R.prog w) 20000 R.prog w os).map (fun s => (looksF R.prog (boot_heap w.params) s.abs, seenQ (view R.prog [81]) others (importedModules R.prog.main.body) (fun s => xlAt (view R.prog [81]) [] s && recOk R.toRowW.records s) s.abs, obv s)) = some (true, openGood (view R.prog [81]) others, v)
theorem RunV.join {o1 o2 : PySem.W.SharedT → AlM} {v1 v2 : AlM} {w : World} (h1 : RunV o1 v1 w) (h2 : RunV o2 v2 w) : RunV (fun s => comb (o1 s) (o2 s)) (comb v1 v2) w := by
  intro os
  have e1 := h1 os
  have e2 := h2 os
  unfold RunV at *
  generalize HandSHeadRun.endF (HandSHeadRun.stepQ (HandSHeadRun.denQ HandSHeadRun.tabQ) R.prog w) 20000 R.prog w os = x at e1 e2 ⊢
  cases x with
  | none => cases e1
  | some s =>
    rw [Option.map_some] at e1 e2 ⊢
    have q1 := Option.some.inj e1
    have q2 := Option.some.inj e2
    obtain ⟨a1, b1⟩ := Prod.mk.inj q1
    obtain ⟨a2, b2⟩ := Prod.mk.inj b1
    obtain ⟨_, c1⟩ := Prod.mk.inj q2
    obtain ⟨_, c2⟩ := Prod.mk.inj c1
    show some (_, _, comb (o1 s) (o2 s)) = _
    rw [a1, a2, b2, c2]
def frT (s : PySem.W.SharedT) : PySem.W.Frag := He.frG (HandSHeadRun.getT s) (asB (HandSHeadRun.getT s))
def part (i : Nat) : List He.DefD := (fns.drop (14 * i)).take 14
theorem runA (w : World) : RunV (fun s => (allB (frT s), [])) (true, []) w := by
  intro os
  kernel_rfl
theorem run0 (w : World) : RunV (fun s => okP (frT s) (part 0)) (true, (part 0).map He.DefD.val) w := by
  intro os
  kernel_rfl
theorem run1 (w : World) : RunV (fun s => okP (frT s) (part 1)) (true, (part 1).map He.DefD.val) w := by
  intro os
  kernel_rfl
theorem run2 (w : World) : RunV (fun s => okP (frT s) (part 2)) (true, (part 2).map He.DefD.val) w := by
  intro os
  kernel_rfl
theorem run3 (w : World) : RunV (fun s => okP (frT s) (part 3)) (true, (part 3).map He.DefD.val) w := by
  intro os
  kernel_rfl
theorem run4 (w : World) : RunV (fun s => okP (frT s) (part 4)) (true, (part 4).map He.DefD.val) w := by
  intro os
  kernel_rfl
theorem run5 (w : World) : RunV (fun s => okP (frT s) (part 5)) (true, (part 5).map He.DefD.val) w := by
  intro os
  kernel_rfl
theorem fns_eq : fns = part 0 ++ (part 1 ++ (part 2 ++ (part 3 ++ (part 4 ++ (part 5))))) := by rfl
theorem run (w : World) : HandSHeadRun.RunEq R (PySem.W.view R.prog [81]) hk ob 20000 others w := by
  have h := (runA w).join (((run0 w)).join (((run1 w)).join (((run2 w)).join (((run3 w)).join (((run4 w)).join (run5 w))))))
  have e : ob = fun s => comb (allB (frT s), []) (comb (okP (frT s) (part 0)) (comb (okP (frT s) (part 1)) (comb (okP (frT s) (part 2)) (comb (okP (frT s) (part 3)) (comb (okP (frT s) (part 4)) (okP (frT s) (part 5))))))) := funext fun s => by
    have q : okP (frT s) fns = comb (okP (frT s) (part 0)) (comb (okP (frT s) (part 1)) (comb (okP (frT s) (part 2)) (comb (okP (frT s) (part 3)) (comb (okP (frT s) (part 4)) (okP (frT s) (part 5)))))) := by
      conv => lhs; rw [fns_eq]
      simp only [okP_app]
    rw [← q]
    show obsM (frT s) = _
    unfold obsM okP comb
    rfl
  have v : valM = comb (true, []) (comb (true, (part 0).map He.DefD.val) (comb (true, (part 1).map He.DefD.val) (comb (true, (part 2).map He.DefD.val) (comb (true, (part 3).map He.DefD.val) (comb (true, (part 4).map He.DefD.val) ((true, (part 5).map He.DefD.val))))))) := by
    unfold valM comb
    conv => lhs; rw [fns_eq]
    simp only [List.map_append, Bool.and_self, List.nil_append]
  rw [← e, ← v] at h
  exact h
end G14

set_option maxHeartbeats 8000000
namespace G14
open PySem PySem.Spec PyProof.Rows L2 G1
theorem all_of {α : Type} {p : α → Bool} {l : List α} (h : l.all p = true) {x : α} (hx : x ∈ l) : p x = true := List.all_eq_true.mp h x hx
theorem fun_of {K : PySem.W.Frag} (c : obsM K = valM) {d : He.DefD} (h : d ∈ fns) : ∃ fd, FunD K d.name d.qual d.params d.body d.scope (d.dvs K) (d.kws K) (He.fAd K d.at_) fd := by
  have c1 : (allB K && fns.all fun d => d.ok K) = true := congrArg (fun z : AlM => z.1) c
  have c2 : fns.map (fun d => He.fnW K d.at_) = fns.map He.DefD.val := congrArg (fun z : AlM => z.2) c
  obtain ⟨i, hi, e⟩ := List.mem_iff_getElem.mp h
  have e2 : (fns.map fun d => He.fnW K d.at_)[i]? = (fns.map He.DefD.val)[i]? := by rw [c2]
  rw [List.getElem?_map, List.getElem?_map, List.getElem?_eq_getElem hi, e] at e2
  exact He.DefD.funD (Option.some.inj e2) (all_of (He.ba c1).2 h)
theorem init_in (j : Fin 4) : dInit (errsL.getD j.1 (0, "")).1 (errsL.getD j.1 (0, "")).2 ∈ fns := List.mem_append_left _ (List.mem_map.mpr ⟨_, by rw [List.getD_eq_getElem?_getD, List.getElem?_eq_getElem (show j.1 < errsL.length from j.2)]; exact List.getElem_mem _, rfl⟩)
theorem meth_in (j : Fin 5) : dMeth (methL.getD j.1 (0, "")) ∈ fns := List.mem_append_right _ (List.mem_append_left _ (List.mem_map.mpr ⟨_, by rw [List.getD_eq_getElem?_getD, List.getElem?_eq_getElem (show j.1 < methL.length from j.2)]; exact List.getElem_mem _, rfl⟩))
theorem def_in (j : Fin 64) : dDef (allL.getD j.1 (0, "")) ∈ fns := List.mem_append_right _ (List.mem_append_right _ (List.mem_map.mpr ⟨_, by rw [List.getD_eq_getElem?_getD, List.getElem?_eq_getElem (show j.1 < allL.length from j.2)]; exact List.getElem_mem _, rfl⟩))
theorem err_ix {x : Str} (h : x ∈ errs) : ∃ j : Fin 4, (errsL.getD j.1 (0, "")).2 = x := by
  obtain ⟨p, hp, rfl⟩ := List.mem_map.mp (show x ∈ errsL.map (·.2) from h)
  obtain ⟨i, hi, e⟩ := List.mem_iff_getElem.mp hp
  refine ⟨⟨i, hi⟩, ?_⟩
  rw [List.getD_eq_getElem?_getD, List.getElem?_eq_getElem hi, e]
  rfl
def initI (j : Fin 4) : Stmt := initS (errsL.getD j.1 (0, "")).1
theorem init_sc : ∀ j : Fin 4, FnScope iPs iPs (defScope (initI j)) := by
  intro j
  have h : ∀ j : Fin 4, (defScope (initI j)) = (defScope (initS 3)) := by decide +kernel
  rw [h j]
  exact ⟨rfl, rfl, rfl, by decide +kernel, rfl, by decide +kernel, by decide +kernel⟩
def iAr (p1 p2 : Pos) (e : Expr) : Arguments := { posonlyargs := [], args := [{ arg := "self", annotation := none, pos := p1 }, { arg := "value", annotation := none, pos := p2 }], vararg := none, kwonlyargs := [], kw_defaults := [], kwarg := none, defaults := [e] }
section
variable {ql : Str} {p1 p2 : Pos} {e : Expr} {bd : List Stmt} {sc : Scope}
theorem bind2 (T : Addr) (kV doc pm : Value) (an : Option Addr) (cdv ct : Value) (us its : List Value) (h1 : us.length = 2) (h2 : its.length = 1) :
    ∃ k, bindArgs (PySem.W.fnOf "__init__" ql (iAr p1 p2 e) bd sc (.ref T) kV doc pm an cdv ct) ⟨us, []⟩ = seqItems? (.ref T) >>= k ∧ k (some its.toArray) = pure (iPs.zip (us ++ its.drop 1)) :=
  match us, its, h1, h2 with | [_, _], [_], _, _ => ⟨_, rfl, rfl⟩
end
/-- what is read off the text of one such __init__ -/
def shapeB (a : Arguments) (b : List Stmt) : Bool := match a, b with
  | ⟨[], [⟨s1, none, _⟩, ⟨s2, none, _⟩], none, [], [], none, [_]⟩, [.Assign [.Attribute (.Name s3 _) s4 _] (.Name s5 _) _] => decide (s1 = "self") && (decide (s2 = "value") && (decide (s3 = "self") && (decide (s4 = "value") && decide (s5 = "value"))))
  | _, _ => false
theorem shapeB_ok {a : Arguments} {b : List Stmt} (h : shapeB a b = true) : (∃ p1 p2 e, a = iAr p1 p2 e) ∧ ∃ p1 p2 p3 p4, b = [.Assign [.Attribute (.Name "self" p1) "value" p2] (.Name "value" p3) p4] := by
  unfold shapeB at h
  split at h
  · obtain ⟨h1, h⟩ := He.ba h
    obtain ⟨h2, h⟩ := He.ba h
    obtain ⟨h3, h⟩ := He.ba h
    obtain ⟨h4, h5⟩ := He.ba h
    rw [of_decide_eq_true h1, of_decide_eq_true h2, of_decide_eq_true h3, of_decide_eq_true h4, of_decide_eq_true h5]
    exact ⟨⟨_, _, _, rfl⟩, _, _, _, _, rfl⟩
  · cases h
theorem shapes : ∀ j : Fin 4, shapeB (defArgs (initI j)) (defBody (initI j)) = true := by decide +kernel
section
variable {P : Program} {w : World} {K : PySem.W.Frag} {mg : Str → Option Value} {base : Heap}
theorem errC_of {x : Str} (c : obsM K = valM) (hx : x ∈ errs) (E : EC K (ga K x) (He.ma K (ga K x) "__init__")) (gl : mg x = some (.ref (ga K x))) : ErrC P w K mg base x := by
  obtain ⟨j, hj⟩ := err_ix hx
  obtain ⟨fd, F⟩ := fun_of c (init_in j)
  rw [hj] at F
  have F' : FunD K "__init__" (x ++ ".__init__") (defArgs (initI j)) (defBody (initI j)) (defScope (initI j)) [.non] [] (He.ma K (ga K x) "__init__") fd := F
  obtain ⟨⟨q1, q2, qe, ea⟩, p1, p2, p3, p4, e⟩ := shapeB_ok (shapes j)
  rw [ea, e] at F'
  obtain ⟨d1, v1, b1⟩ := FunD.binds1 (ps := iPs) F' 2 1 (by simp) rfl bind2
  have e1 : d1 = [] := by
    cases v1
    rfl
  subst e1
  refine ⟨⟨_, fd, E, ?_, b1⟩, gl⟩
  refine okN F' (init_sc j) (fun vs H Q Ex h => ?_) (fun cdv A outer s H vs Q Ex hr h => ?_)
  · obtain ⟨_, _, rfl, _⟩ := h
    rfl
  · obtain ⟨a, v, rfl, ha, k⟩ := h
    have sc := init_sc j
    refine ⟨tOst K "value" (tVar 0) (tVar 1), ?_, ?_⟩
    · exact pss_one (ps_ost (pe_var (x := "self") rfl (sc.par "self" (List.mem_cons_self)|>.imp id .inl) (by decide) (by decide)) (pe_var (x := "value") rfl (sc.par "value" (List.mem_cons_of_mem _ List.mem_cons_self)|>.imp id .inl) (by decide) (by decide)))
    · exact ⟨v, rfl, _, rfl, a, ga K x, rfl, E.t, E.nv, .inl ⟨ha, fun dx n ne => k dx n ne⟩⟩
end
end G14

set_option maxHeartbeats 8000000
namespace G14
open PySem PySem.Spec PyProof.Rows L2 G1
structure Facts (K : PySem.W.Frag) (mg : Str → Option Value) : Prop where
  fr : ∀ x ∈ frees, mg x = none
  long : ∃ t, mg "LONGEST_NAME" = some (.int 8 t)
  gl : ∀ x ∈ globs, mg x = some (.ref (ga K x))
  ec : ∀ x ∈ errs, EC K (ga K x) (He.ma K (ga K x) "__init__")
  pan : PanHd K
  xm : ∀ m ∈ xmeths, Meth K (ga K "Panel") m (He.ma K (ga K "Panel") m)
  xc : ∀ x ∈ errs, ExcC K (ga K x)
  ex : ∀ x ∈ caught, ∀ y ∈ caught, PySem.W.exmOne K (.ref (ga K x)) (.ref (ga K y)) = some (decide (x = y))
  kt : ∀ T ∈ kits, PySem.W.kitOne K (.type T) (.ref (ga K "Panel")) = some false
theorem facts_of {K : PySem.W.Frag} {h : Heap} {mg : Str → Option Value} (X : K.In h) (G : h.Ns mainGlobals mg) (c : obsM K = valM) : Facts K mg := by
  have c1 : (allB K && fns.all fun d => d.ok K) = true := congrArg (fun z : AlM => z.1) c
  obtain ⟨h1, q⟩ := He.ba (He.ba c1).1
  obtain ⟨h2, q⟩ := He.ba q
  obtain ⟨h3, q⟩ := He.ba q
  obtain ⟨h4, q⟩ := He.ba q
  obtain ⟨h5, q⟩ := He.ba q
  obtain ⟨h6, q⟩ := He.ba q
  obtain ⟨h7, q⟩ := He.ba q
  obtain ⟨h8, h9⟩ := He.ba q
  exact ⟨fun x hx => He.free_ok X G (all_of h1 hx), He.int_ok X G h2, fun x hx => He.glo_ok X G (all_of h3 hx), fun x hx => ecB_ok (all_of h5 hx) (exB_ok (all_of h4 hx)), panB_ok h6, fun m hm => He.meth_ok (all_of h7 hm), fun x hx => exB_ok (all_of h4 hx), fun x hx y hy => of_decide_eq_true (all_of (all_of h8 hx) hy), fun T hT => of_decide_eq_true (all_of h9 hT)⟩
theorem law_of {P : Program} {w : World} {K : PySem.W.Frag} {h : Heap} {mg : Str → Option Value} {f : Addr} (X : K.In h) (G : h.Ns mainGlobals mg) (hfa : mg ("law" : Str) = some (.ref f)) (c : obsM K = valM) :
    ∃ fd : FuncData, (∀ (s : Shared) (v : Value), BindsTo s fd ⟨[v], []⟩ [("_law_script", v)]) ∧ ∀ base : Heap, K.In base → base.Ns mainGlobals mg → FnG P w K mg base 10 f fd ["_law_script"] (spLaw K) := by
  have T := facts_of X G c
  have fr := T.fr
  have gl := T.gl
  obtain ⟨m0, M0⟩ := fun_of c (meth_in 0)
  obtain ⟨m1, M1⟩ := fun_of c (meth_in 1)
  obtain ⟨m2, M2⟩ := fun_of c (meth_in 2)
  obtain ⟨m3, M3⟩ := fun_of c (meth_in 3)
  obtain ⟨m4, M4⟩ := fun_of c (meth_in 4)
  obtain ⟨d0, D0⟩ := fun_of c (def_in 0)
  obtain ⟨d1, D1⟩ := fun_of c (def_in 1)
  obtain ⟨d2, D2⟩ := fun_of c (def_in 2)
  obtain ⟨d3, D3⟩ := fun_of c (def_in 3)
  obtain ⟨d4, D4⟩ := fun_of c (def_in 4)
  obtain ⟨d5, D5⟩ := fun_of c (def_in 5)
  obtain ⟨d6, D6⟩ := fun_of c (def_in 6)
  obtain ⟨d7, D7⟩ := fun_of c (def_in 7)
  obtain ⟨d8, D8⟩ := fun_of c (def_in 8)
  obtain ⟨d9, D9⟩ := fun_of c (def_in 9)
  obtain ⟨d10, D10⟩ := fun_of c (def_in 10)
  obtain ⟨d11, D11⟩ := fun_of c (def_in 11)
  obtain ⟨d12, D12⟩ := fun_of c (def_in 12)
  obtain ⟨d13, D13⟩ := fun_of c (def_in 13)
  obtain ⟨d14, D14⟩ := fun_of c (def_in 14)
  obtain ⟨d15, D15⟩ := fun_of c (def_in 15)
  obtain ⟨d16, D16⟩ := fun_of c (def_in 16)
  obtain ⟨d17, D17⟩ := fun_of c (def_in 17)
  obtain ⟨d18, D18⟩ := fun_of c (def_in 18)
  obtain ⟨d19, D19⟩ := fun_of c (def_in 19)
  obtain ⟨d20, D20⟩ := fun_of c (def_in 20)
  obtain ⟨d21, D21⟩ := fun_of c (def_in 21)
  obtain ⟨d22, D22⟩ := fun_of c (def_in 22)
  obtain ⟨d23, D23⟩ := fun_of c (def_in 23)
  obtain ⟨d24, D24⟩ := fun_of c (def_in 24)
  obtain ⟨d25, D25⟩ := fun_of c (def_in 25)
  obtain ⟨d26, D26⟩ := fun_of c (def_in 26)
  obtain ⟨d27, D27⟩ := fun_of c (def_in 27)
  obtain ⟨d28, D28⟩ := fun_of c (def_in 28)
  obtain ⟨d29, D29⟩ := fun_of c (def_in 29)
  obtain ⟨d30, D30⟩ := fun_of c (def_in 30)
  obtain ⟨d31, D31⟩ := fun_of c (def_in 31)
  obtain ⟨d32, D32⟩ := fun_of c (def_in 32)
  obtain ⟨d33, D33⟩ := fun_of c (def_in 33)
  obtain ⟨d34, D34⟩ := fun_of c (def_in 34)
  obtain ⟨d35, D35⟩ := fun_of c (def_in 35)
  obtain ⟨d36, D36⟩ := fun_of c (def_in 36)
  obtain ⟨d37, D37⟩ := fun_of c (def_in 37)
  obtain ⟨d38, D38⟩ := fun_of c (def_in 38)
  obtain ⟨d39, D39⟩ := fun_of c (def_in 39)
  obtain ⟨d40, D40⟩ := fun_of c (def_in 40)
  obtain ⟨d41, D41⟩ := fun_of c (def_in 41)
  obtain ⟨d42, D42⟩ := fun_of c (def_in 42)
  obtain ⟨d43, D43⟩ := fun_of c (def_in 43)
  obtain ⟨d44, D44⟩ := fun_of c (def_in 44)
  obtain ⟨d45, D45⟩ := fun_of c (def_in 45)
  obtain ⟨d46, D46⟩ := fun_of c (def_in 46)
  obtain ⟨d47, D47⟩ := fun_of c (def_in 47)
  obtain ⟨d48, D48⟩ := fun_of c (def_in 48)
  obtain ⟨d49, D49⟩ := fun_of c (def_in 49)
  obtain ⟨d50, D50⟩ := fun_of c (def_in 50)
  obtain ⟨d51, D51⟩ := fun_of c (def_in 51)
  obtain ⟨d52, D52⟩ := fun_of c (def_in 52)
  obtain ⟨d53, D53⟩ := fun_of c (def_in 53)
  obtain ⟨d54, D54⟩ := fun_of c (def_in 54)
  obtain ⟨d55, D55⟩ := fun_of c (def_in 55)
  obtain ⟨d56, D56⟩ := fun_of c (def_in 56)
  obtain ⟨d57, D57⟩ := fun_of c (def_in 57)
  obtain ⟨d58, D58⟩ := fun_of c (def_in 58)
  obtain ⟨d59, D59⟩ := fun_of c (def_in 59)
  obtain ⟨d60, D60⟩ := fun_of c (def_in 60)
  obtain ⟨d61, D61⟩ := fun_of c (def_in 61)
  obtain ⟨d62, D62⟩ := fun_of c (def_in 62)
  obtain ⟨d63, D63⟩ := fun_of c (def_in 63)
  have e := hfa.symm.trans (gl "law" (by decide))
  cases e
  have I___init__ : FnM K "__init__" "Panel.__init__" sInit (He.ma K (ga K "Panel") "__init__") m0 := M0
  have I_entries : FnM K "entries" "Panel.entries" sEnt (He.ma K (ga K "Panel") "entries") m1 := M1
  have I_rows : FnM K "rows" "Panel.rows" sRws (He.ma K (ga K "Panel") "rows") m2 := M2
  have I___len__ : FnM K "__len__" "Panel.__len__" sLen (He.ma K (ga K "Panel") "__len__") m3 := M3
  have I___eq__ : FnM K "__eq__" "Panel.__eq__" sEq (He.ma K (ga K "Panel") "__eq__") m4 := M4
  have J_is_name : FnP K "is_name" sIsName (ga K "is_name") d0 := D0
  have J_is_count : FnP K "is_count" sIsCount (ga K "is_count") d1 := D1
  have J_is_ascending : FnP K "is_ascending" sAsc (ga K "is_ascending") d2 := D2
  have J_are_unlike_names : FnP K "are_unlike_names" sUnlike (ga K "are_unlike_names") d3 := D3
  have J_is_lot : FnP K "is_lot" sIsLot (ga K "is_lot") d4 := D4
  have J_is_field : FnP K "is_field" sIsField (ga K "is_field") d5 := D5
  have J_is_row : FnP K "is_row" sIsRow (ga K "is_row") d6 := D6
  have J_are_rows : FnP K "are_rows" sAreR (ga K "are_rows") d7 := D7
  have J_check_entries : FnP K "check_entries" sChkE (ga K "check_entries") d8 := D8
  have J_check_rows : FnP K "check_rows" sChkR (ga K "check_rows") d9 := D9
  have J_check_entry : FnP K "check_entry" sChkN (ga K "check_entry") d10 := D10
  have J_check_position : FnP K "check_position" sChkAt (ga K "check_position") d11 := D11
  have J_check_field : FnP K "check_field" sChkF (ga K "check_field") d12 := D12
  have J_bits_of : FnP K "bits_of" sBits (ga K "bits_of") d13 := D13
  have J_lot_of : FnP K "lot_of" sLotOf (ga K "lot_of") d14 := D14
  have J_united : FnP K "united" sUnited (ga K "united") d15 := D15
  have J_masks_ahead : FnP K "masks_ahead" sMAhead (ga K "masks_ahead") d16 := D16
  have J_holds_one : FnP K "holds_one" sHolds (ga K "holds_one") d17 := D17
  have J_least_masks : FnP K "least_masks" sLeast (ga K "least_masks") d18 := D18
  have J_check_panel : FnP K "check_panel" sChkP (ga K "check_panel") d19 := D19
  have J_check_panels : FnP K "check_panels" sChkPs (ga K "check_panels") d20 := D20
  have J_first_there : FnP K "first_there" sFirst (ga K "first_there") d21 := D21
  have J_cards_on : FnP K "cards_on" sCardsOn (ga K "cards_on") d22 := D22
  have J_cards : FnP K "cards" sCards (ga K "cards") d23 := D23
  have J_ahead : FnP K "ahead" sAhead (ga K "ahead") d24 := D24
  have J_ahead_masks : FnP K "ahead_masks" sAMs (ga K "ahead_masks") d25 := D25
  have J_least_by : FnP K "least_by" sLBy (ga K "least_by") d26 := D26
  have J_least_ahead : FnP K "least_ahead" sLA (ga K "least_ahead") d27 := D27
  have J_least_of : FnP K "least_of" sLOf (ga K "least_of") d28 := D28
  have J_sorted_lots : FnP K "sorted_lots" sSLots (ga K "sorted_lots") d29 := D29
  have J_least_lots : FnP K "least_lots" sLLots (ga K "least_lots") d30 := D30
  have J_lots_met : FnP K "lots_met" sLMet (ga K "lots_met") d31 := D31
  have J_shortest_meeting : FnP K "shortest_meeting" sSMeet (ga K "shortest_meeting") d32 := D32
  have J_one_more : FnP K "one_more" sOneMore (ga K "one_more") d33 := D33
  have J_within : FnP K "within" sWithin (ga K "within") d34 := D34
  have J_alike : FnP K "alike" sAlike (ga K "alike") d35 := D35
  have J_beyond : FnP K "beyond" sBeyond (ga K "beyond") d36 := D36
  have J_bad_row : FnP K "bad_row" sBad (ga K "bad_row") d37 := D37
  have J_field_beyond : FnP K "field_beyond" sFB (ga K "field_beyond") d38 := D38
  have J_parting_field : FnP K "parting_field" sPF (ga K "parting_field") d39 := D39
  have J_is_parting_field : FnP K "is_parting_field" sIPF (ga K "is_parting_field") d40 := D40
  have J_sizes_beyond : FnP K "sizes_beyond" sSizes (ga K "sizes_beyond") d41 := D41
  have J_parting_size : FnP K "parting_size" sPSize (ga K "parting_size") d42 := D42
  have J_once_ahead : FnP K "once_ahead" sOnce (ga K "once_ahead") d43 := D43
  have J_parting_pairs : FnP K "parting_pairs" sPPairs (ga K "parting_pairs") d44 := D44
  have J__law_purse : FnP K "_law_purse" sPurse (ga K "_law_purse") d45 := D45
  have J__law_mixed : FnP K "_law_mixed" sMixed (ga K "_law_mixed") d46 := D46
  have J__law_draw : FnP K "_law_draw" sDraw (ga K "_law_draw") d47 := D47
  have J__law_purses : FnP K "_law_purses" sPurses (ga K "_law_purses") d48 := D48
  have J__law_shuffled : FnP K "_law_shuffled" sShuf (ga K "_law_shuffled") d49 := D49
  have J__law_word : FnP K "_law_word" sWord (ga K "_law_word") d50 := D50
  have J__law_names : FnP K "_law_names" sNames (ga K "_law_names") d51 := D51
  have J__law_rows_of : FnP K "_law_rows_of" sRows (ga K "_law_rows_of") d52 := D52
  have J__law_panel : FnP K "_law_panel" sLPan (ga K "_law_panel") d53 := D53
  have J__law_shown : FnP K "_law_shown" sShown (ga K "_law_shown") d54 := D54
  have J__law_strange : FnP K "_law_strange" sStrange (ga K "_law_strange") d55 := D55
  have J__law_called : FnP K "_law_called" sCalled (ga K "_law_called") d56 := D56
  have J__law_fell : FnP K "_law_fell" sFell (ga K "_law_fell") d57 := D57
  have J__law_is_held : FnP K "_law_is_held" sHeld (ga K "_law_is_held") d58 := D58
  have J__law_odds : FnP K "_law_odds" sOdds (ga K "_law_odds") d59 := D59
  have J__law_unlike : FnP K "_law_unlike" sUnl (ga K "_law_unlike") d60 := D60
  have J__law_falls : FnP K "_law_falls" sFalls (ga K "_law_falls") d61 := D61
  have J__law_by_names : FnP K "_law_by_names" sBN (ga K "_law_by_names") d62 := D62
  have J_law : FnP K "law" sLaw (ga K "law") d63 := D63
  have b := FunD.bindsA (ps := ["_law_script"]) J_law fun _ _ _ _ _ _ us hl => match us, hl with | [_], _ => rfl
  refine ⟨d63, fun s v => b s [v] rfl, fun base _ _ => ?_⟩
  have L : Lib K mg := ⟨fr _ (by decide), fr _ (by decide), fr _ (by decide), fr _ (by decide), fr _ (by decide)⟩
  have LP : LibP mg := ⟨fr _ (by decide), fr _ (by decide), fr _ (by decide), fr _ (by decide), fr _ (by decide), fr _ (by decide), T.long⟩
  have LZ : LibZ mg := ⟨fr _ (by decide), fr _ (by decide), fr _ (by decide), fr _ (by decide)⟩
  have gP : mg "Panel" = some (.ref (ga K "Panel")) := gl _ (by decide)
  have EE : ErrC P w K mg base "InvalidEntries" := errC_of c (by decide) (T.ec _ (by decide)) (gl _ (by decide))
  have ER : ErrC P w K mg base "InvalidRows" := errC_of c (by decide) (T.ec _ (by decide)) (gl _ (by decide))
  have PX : PanX K (ga K "Panel") := T.pan.y.toPanX
  have PC : PanC K (ga K "Panel") := PX.toPanC
  have GD := ok_draw (P := P) (w := w) (base := base) J__law_draw L J__law_mixed (gl "_law_mixed" (by decide))
  have GP := ok_purses (P := P) (w := w) (base := base) J__law_purses L J__law_purse (gl "_law_purse" (by decide))
  have GS := ok_shuf (P := P) (w := w) (base := base) J__law_shuffled L J__law_draw (gl "_law_draw" (by decide)) GD
  have GW := ok_word (P := P) (w := w) (base := base) J__law_word L J__law_draw (gl "_law_draw" (by decide)) GD
  have GN := ok_names (P := P) (w := w) (base := base) J__law_names L LP.sorted J__law_shuffled (gl "_law_shuffled" (by decide)) GS J__law_word (gl "_law_word" (by decide)) GW
  have GR := ok_rows (P := P) (w := w) (base := base) J__law_rows_of L J__law_shuffled (gl "_law_shuffled" (by decide)) GS J__law_draw (gl "_law_draw" (by decide)) GD
  have GU := ok_unlike (P := P) (w := w) (base := base) J_are_unlike_names L LP J_is_name (gl "is_name" (by decide))
  have GI := ok_isRow (P := P) (w := w) (base := base) J_is_row L LP
  have GA := ok_areR (P := P) (w := w) (base := base) J_are_rows L LP J_is_row (gl "is_row" (by decide)) GI
  have GE := ok_chkE (P := P) (w := w) (base := base) J_check_entries EE J_are_unlike_names (gl "are_unlike_names" (by decide)) GU
  have GK := ok_chkR (P := P) (w := w) (base := base) J_check_rows ER J_are_rows (gl "are_rows" (by decide)) GA
  have GIn := ok_init (P := P) (w := w) (base := base) I___init__ L LP PC J_check_entries (gl "check_entries" (by decide)) GE J_check_rows (gl "check_rows" (by decide)) GK
  have GEn := ok_ent (P := P) (w := w) (base := base) I_entries LP PC
  have GRw := ok_rws (P := P) (w := w) (base := base) I_rows LP PC
  have GLn := ok_len (P := P) (w := w) (base := base) I___len__ L PC
  have GEq := ok_eq (P := P) (w := w) (base := base) I___eq__ LP PX gP
  have N : PanP P w K mg base (ga K "Panel") := ⟨PC.cls, ⟨⟨_, _, T.pan.en, GEn, I_entries.bindsN fun _ _ _ _ _ _ us hl => match us, hl with | [_], _ => rfl⟩⟩, ⟨⟨_, _, T.pan.rw, GRw, I_rows.bindsN fun _ _ _ _ _ _ us hl => match us, hl with | [_], _ => rfl⟩⟩,
    ⟨_, _, T.pan.ln.at_, T.pan.ln.fn, GLn, I___len__.bindsN fun _ _ _ _ _ _ us hl => match us, hl with | [_], _ => rfl⟩⟩
  have GAs := ok_asc (P := P) (w := w) (base := base) (K := K) J_is_ascending LP LZ
  have GIL := ok_isLot (P := P) (w := w) (base := base) J_is_lot LP J_is_ascending (gl "is_ascending" (by decide)) GAs
  have GIF := ok_isField (P := P) (w := w) (base := base) J_is_field L J_is_lot (gl "is_lot" (by decide)) GIL
  have GCF := ok_chkF (P := P) (w := w) (base := base) J_check_field J_is_field (gl "is_field" (by decide)) GIF
  have GIC := ok_isCount (P := P) (w := w) (base := base) J_is_count LP LZ
  have GCA := ok_chkAt (P := P) (w := w) (base := base) J_check_position J_is_count (gl "is_count" (by decide)) GIC
  have GCN := ok_chkN (P := P) (w := w) (base := base) (mg := mg) J_check_entry
  have GCP := ok_chkP (P := P) (w := w) (base := base) J_check_panel LP PX gP
  have GFi := ok_first (P := P) (w := w) (base := base) (mg := mg) J_first_there
  have GCO := ok_cardsOn (P := P) (w := w) (base := base) J_cards_on LP J_first_there (gl "first_there" (by decide)) GFi
  have DP : Df P w K mg base 1 "check_panel" sChkP ["panel"] (spChkP (ga K "Panel")) := ⟨⟨_, _, J_check_panel, gl _ (by decide), GCP, (J_check_panel.bindsN fun _ _ _ _ _ _ us hl => match us, hl with | [_], _ => rfl)⟩⟩
  have DA : Df P w K mg base 2 "check_position" sChkAt ["many", "at"] spChkAt := ⟨⟨_, _, J_check_position, gl _ (by decide), GCA, (J_check_position.bindsN fun _ _ _ _ _ _ us hl => match us, hl with | [_, _], _ => rfl)⟩⟩
  have DN : Df P w K mg base 1 "check_entry" sChkN ["entries", "entry"] (spChkN K) := ⟨⟨_, _, J_check_entry, gl _ (by decide), GCN, (J_check_entry.bindsN fun _ _ _ _ _ _ us hl => match us, hl with | [_, _], _ => rfl)⟩⟩
  have DF : Df P w K mg base 4 "check_field" sChkF ["entries", "field"] (spChkF K) := ⟨⟨_, _, J_check_field, gl _ (by decide), GCF, (J_check_field.bindsN fun _ _ _ _ _ _ us hl => match us, hl with | [_, _], _ => rfl)⟩⟩
  have D1 : Df P w K mg base 1 "first_there" sFirst ["row", "field"] (spFirst K) := ⟨⟨_, _, J_first_there, gl _ (by decide), GFi, (J_first_there.bindsN fun _ _ _ _ _ _ us hl => match us, hl with | [_, _], _ => rfl)⟩⟩
  have D2 : Df P w K mg base 2 "cards_on" sCardsOn ["rows", "field"] (spCardsOn K) := ⟨⟨_, _, J_cards_on, gl _ (by decide), GCO, (J_cards_on.bindsN fun _ _ _ _ _ _ us hl => match us, hl with | [_, _], _ => rfl)⟩⟩
  have DIL : Df P w K mg base 2 "is_lot" sIsLot ["entries", "value"] (spIsLot K) := ⟨⟨_, _, J_is_lot, gl _ (by decide), GIL, (J_is_lot.bindsN fun _ _ _ _ _ _ us hl => match us, hl with | [_, _], _ => rfl)⟩⟩
  have DCa : Df P w K mg base 5 "cards" sCards ["panel", "field"] (spCards (ga K "Panel")) := ⟨⟨_, _, J_cards, gl _ (by decide), ok_cards J_cards N DP DF D2, (J_cards.bindsN fun _ _ _ _ _ _ us hl => match us, hl with | [_, _], _ => rfl)⟩⟩
  have DAh : Df P w K mg base 3 "ahead" sAhead ["panel", "at", "entry"] (spAhead (ga K "Panel")) := ⟨⟨_, _, J_ahead, gl _ (by decide), ok_ahead J_ahead L LP N DP DA DN, (J_ahead.bindsN fun _ _ _ _ _ _ us hl => match us, hl with | [_, _, _], _ => rfl)⟩⟩
  have LD : Df P w K mg base 2 "_law_draw" sDraw ["_law_purse_here", "_law_many"] spDraw := ⟨⟨_, _, J__law_draw, gl _ (by decide), GD, (J__law_draw.bindsN fun _ _ _ _ _ _ us hl => match us, hl with | [_, _], _ => rfl)⟩⟩
  have LPs : Df P w K mg base 2 "_law_purses" sPurses ["_law_script", "_law_few"] (spPurses K) := ⟨⟨_, _, J__law_purses, gl _ (by decide), GP, (J__law_purses.bindsN fun _ _ _ _ _ _ us hl => match us, hl with | [_, _], _ => rfl)⟩⟩
  have LS : Df P w K mg base 3 "_law_shuffled" sShuf ["_law_purse_here", "_law_some"] (spShuf K) := ⟨⟨_, _, J__law_shuffled, gl _ (by decide), GS, (J__law_shuffled.bindsN fun _ _ _ _ _ _ us hl => match us, hl with | [_, _], _ => rfl)⟩⟩
  have LN : Df P w K mg base 4 "_law_names" sNames ["_law_purse_here", "_law_many"] spNames := ⟨⟨_, _, J__law_names, gl _ (by decide), GN, (J__law_names.bindsN fun _ _ _ _ _ _ us hl => match us, hl with | [_, _], _ => rfl)⟩⟩
  have LR : Df P w K mg base 4 "_law_rows_of" sRows ["_law_purse_here", "_law_names_here", "_law_many"] (spRows K) := ⟨⟨_, _, J__law_rows_of, gl _ (by decide), GR, (J__law_rows_of.bindsN fun _ _ _ _ _ _ us hl => match us, hl with | [_, _, _], _ => rfl)⟩⟩
  have GPS := ok_pursesS (P := P) (w := w) (base := base) J__law_purses L J__law_purse (gl "_law_purse" (by decide))
  have LPS : Df P w K mg base 2 "_law_purses" sPurses ["_law_script", "_law_few"] (spPursesS K) := ⟨⟨_, _, J__law_purses, gl _ (by decide), GPS, (J__law_purses.bindsN fun _ _ _ _ _ _ us hl => match us, hl with | [_, _], _ => rfl)⟩⟩
  have GILX := ok_isLotX (P := P) (w := w) (base := base) J_is_lot LP
  have GIFX := ok_isFieldX (P := P) (w := w) (base := base) J_is_field L J_is_lot (gl "is_lot" (by decide)) GIL GILX
  have W_check_panels : Df P w K mg base 2 "check_panels" sChkPs ["one", "other"] (spChkPs (ga K "Panel")) := ⟨⟨_, _, J_check_panels, gl _ (by decide), ok_chkPs J_check_panels N DP, (J_check_panels.bindsN fun _ _ _ _ _ _ us hl => match us, hl with | [_, _], _ => rfl)⟩⟩
  have W_bits_of : Df P w K mg base 1 "bits_of" sBits ["entries"] spBits := ⟨⟨_, _, J_bits_of, gl _ (by decide), ok_bits J_bits_of (fr "enumerate" (by decide)), (J_bits_of.bindsN fun _ _ _ _ _ _ us hl => match us, hl with | [_], _ => rfl)⟩⟩
  have W_masks_ahead : Df P w K mg base 1 "masks_ahead" sMAhead ["bits", "row"] spMAhead := ⟨⟨_, _, J_masks_ahead, gl _ (by decide), ok_mAhead J_masks_ahead, (J_masks_ahead.bindsN fun _ _ _ _ _ _ us hl => match us, hl with | [_, _], _ => rfl)⟩⟩
  have W_ahead_masks : Df P w K mg base 2 "ahead_masks" sAMs ["panel"] (spAMs (ga K "Panel")) := ⟨⟨_, _, J_ahead_masks, gl _ (by decide), ok_aMs J_ahead_masks N W_bits_of W_masks_ahead, (J_ahead_masks.bindsN fun _ _ _ _ _ _ us hl => match us, hl with | [_], _ => rfl)⟩⟩
  have W_least_masks : Df P w K mg base 2 "least_masks" sLeast ["masks"] (spLeast K) := ⟨⟨_, _, J_least_masks, gl _ (by decide), ok_least J_least_masks LP, (J_least_masks.bindsN fun _ _ _ _ _ _ us hl => match us, hl with | [_], _ => rfl)⟩⟩
  have W_least_by : Df P w K mg base 3 "least_by" sLBy ["stewards"] spLBy := ⟨⟨_, _, J_least_by, gl _ (by decide), ok_lBy J_least_by LP W_least_masks, (J_least_by.bindsN fun _ _ _ _ _ _ us hl => match us, hl with | [_], _ => rfl)⟩⟩
  have W_least_ahead : Df P w K mg base 4 "least_ahead" sLA ["panel"] (spLA (ga K "Panel")) := ⟨⟨_, _, J_least_ahead, gl _ (by decide), ok_lA J_least_ahead W_ahead_masks W_least_by, (J_least_ahead.bindsN fun _ _ _ _ _ _ us hl => match us, hl with | [_], _ => rfl)⟩⟩
  have W_alike : Df P w K mg base 5 "alike" sAlike ["one", "other"] (spAlike (ga K "Panel")) := ⟨⟨_, _, J_alike, gl _ (by decide), ok_alike J_alike W_check_panels W_least_ahead, (J_alike.bindsN fun _ _ _ _ _ _ us hl => match us, hl with | [_, _], _ => rfl)⟩⟩
  have W_holds_one : Df P w K mg base 1 "holds_one" sHolds ["mask", "masks"] (spHolds K) := ⟨⟨_, _, J_holds_one, gl _ (by decide), ok_holds J_holds_one (fr "any" (by decide)), (J_holds_one.bindsN fun _ _ _ _ _ _ us hl => match us, hl with | [_, _], _ => rfl)⟩⟩
  have W_bad_row : Df P w K mg base 5 "bad_row" sBad ["one", "other"] (spBad (ga K "Panel")) := ⟨⟨_, _, J_bad_row, gl _ (by decide), ok_bad J_bad_row (fr "enumerate" (by decide)) W_check_panels W_least_ahead W_ahead_masks W_holds_one, (J_bad_row.bindsN fun _ _ _ _ _ _ us hl => match us, hl with | [_, _], _ => rfl)⟩⟩
  have W_within : Df P w K mg base 6 "within" sWithin ["one", "other"] (spWithin (ga K "Panel")) := ⟨⟨_, _, J_within, gl _ (by decide), ok_within J_within W_bad_row, (J_within.bindsN fun _ _ _ _ _ _ us hl => match us, hl with | [_, _], _ => rfl)⟩⟩
  have W_lot_of : Df P w K mg base 1 "lot_of" sLotOf ["bits", "mask"] spLotOf := ⟨⟨_, _, J_lot_of, gl _ (by decide), ok_lotOf J_lot_of, (J_lot_of.bindsN fun _ _ _ _ _ _ us hl => match us, hl with | [_, _], _ => rfl)⟩⟩
  have W_sorted_lots : Df P w K mg base 2 "sorted_lots" sSLots ["bits", "masks"] (spSLots K) := ⟨⟨_, _, J_sorted_lots, gl _ (by decide), ok_sLots J_sorted_lots LP W_lot_of, (J_sorted_lots.bindsN fun _ _ _ _ _ _ us hl => match us, hl with | [_, _], _ => rfl)⟩⟩
  have W_beyond : Df P w K mg base 5 "beyond" sBeyond ["one", "other"] (spBeyond (ga K "Panel")) := ⟨⟨_, _, J_beyond, gl _ (by decide), ok_beyond J_beyond LP W_check_panels W_least_ahead W_holds_one, (J_beyond.bindsN fun _ _ _ _ _ _ us hl => match us, hl with | [_, _], _ => rfl)⟩⟩
  have W_least_of : Df P w K mg base 3 "least_of" sLOf ["panel", "entry"] (spLOf (ga K "Panel")) := ⟨⟨_, _, J_least_of, gl _ (by decide), ok_lOf J_least_of W_ahead_masks W_least_masks, (J_least_of.bindsN fun _ _ _ _ _ _ us hl => match us, hl with | [_, _], _ => rfl)⟩⟩
  have W_least_lots : Df P w K mg base 4 "least_lots" sLLots ["panel", "entry"] (spLLots (ga K "Panel")) := ⟨⟨_, _, J_least_lots, gl _ (by decide), ok_lLots J_least_lots N DP DN W_bits_of W_sorted_lots W_least_of, (J_least_lots.bindsN fun _ _ _ _ _ _ us hl => match us, hl with | [_, _], _ => rfl)⟩⟩
  have W_field_beyond : Df P w K mg base 5 "field_beyond" sFB ["one", "other", "at", "entry"] (spFB (ga K "Panel")) := ⟨⟨_, _, J_field_beyond, gl _ (by decide), ok_fB J_field_beyond LP (fr "any" (by decide)) DAh W_least_lots, (J_field_beyond.bindsN fun _ _ _ _ _ _ us hl => match us, hl with | [_, _, _, _], _ => rfl)⟩⟩
  have W_parting_field : Df P w K mg base 6 "parting_field" sPF ["one", "other"] (spPF (ga K "Panel")) := ⟨⟨_, _, J_parting_field, gl _ (by decide), ok_pF J_parting_field W_check_panels W_bad_row W_field_beyond, (J_parting_field.bindsN fun _ _ _ _ _ _ us hl => match us, hl with | [_, _], _ => rfl)⟩⟩
  have W_lots_met : Df P w K mg base 1 "lots_met" sLMet ["bits", "masks"] spLMetF := ⟨⟨_, _, J_lots_met, gl _ (by decide), ok_lMetF J_lots_met L (fr "enumerate" (by decide)), (J_lots_met.bindsN fun _ _ _ _ _ _ us hl => match us, hl with | [_, _], _ => rfl)⟩⟩
  have W_united : Df P w K mg base 1 "united" sUnited ["masks"] spUnited := ⟨⟨_, _, J_united, gl _ (by decide), ok_united J_united, (J_united.bindsN fun _ _ _ _ _ _ us hl => match us, hl with | [_], _ => rfl)⟩⟩
  have W_one_more : Df P w K mg base 1 "one_more" sOneMore ["stage", "choices"] spOneMore := ⟨⟨_, _, J_one_more, gl _ (by decide), ok_oneMore J_one_more, (J_one_more.bindsN fun _ _ _ _ _ _ us hl => match us, hl with | [_, _], _ => rfl)⟩⟩
  have W_shortest_meeting : Df P w K mg base 2 "shortest_meeting" sSMeet ["choices", "many"] spSMeet := ⟨⟨_, _, J_shortest_meeting, gl _ (by decide), ok_sMeet J_shortest_meeting LP W_united W_one_more, (J_shortest_meeting.bindsN fun _ _ _ _ _ _ us hl => match us, hl with | [_, _], _ => rfl)⟩⟩
  have W_sizes_beyond : Df P w K mg base 5 "sizes_beyond" sSizes ["one", "other"] (spSizes (ga K "Panel")) := ⟨⟨_, _, J_sizes_beyond, gl _ (by decide), ok_sizes J_sizes_beyond L N W_bits_of W_least_ahead W_lots_met W_shortest_meeting, (J_sizes_beyond.bindsN fun _ _ _ _ _ _ us hl => match us, hl with | [_, _], _ => rfl)⟩⟩
  have W_parting_size : Df P w K mg base 6 "parting_size" sPSize ["one", "other"] (spPSize (ga K "Panel")) := ⟨⟨_, _, J_parting_size, gl _ (by decide), ok_pSize J_parting_size L W_check_panels W_sizes_beyond, (J_parting_size.bindsN fun _ _ _ _ _ _ us hl => match us, hl with | [_, _], _ => rfl)⟩⟩
  have W_once_ahead : Df P w K mg base 3 "once_ahead" sOnce ["panel"] (spOnce (ga K "Panel")) := ⟨⟨_, _, J_once_ahead, gl _ (by decide), ok_once J_once_ahead N W_ahead_masks, (J_once_ahead.bindsN fun _ _ _ _ _ _ us hl => match us, hl with | [_], _ => rfl)⟩⟩
  have W_parting_pairs : Df P w K mg base 4 "parting_pairs" sPPairs ["one", "other"] (spPPairs (ga K "Panel")) := ⟨⟨_, _, J_parting_pairs, gl _ (by decide), ok_pPairs J_parting_pairs N (fr "enumerate" (by decide)) W_check_panels W_bits_of W_once_ahead, (J_parting_pairs.bindsN fun _ _ _ _ _ _ us hl => match us, hl with | [_, _], _ => rfl)⟩⟩
  have W_is_parting_field : Df P w K mg base 6 "is_parting_field" sIPF ["one", "other", "value"] (spIPF K (ga K "Panel")) := ⟨⟨_, _, J_is_parting_field, gl _ (by decide), ok_iPF J_is_parting_field N W_check_panels DCa J_is_field (gl "is_field" (by decide)) GIF GIFX, (J_is_parting_field.bindsN fun _ _ _ _ _ _ us hl => match us, hl with | [_, _, _], _ => rfl)⟩⟩
  have G_within := dat_within (K := K) W_within
  have G_alike := dat_alike (K := K) W_alike
  have G_beyond := dat_beyond (K := K) W_beyond
  have G_bad_row := dat_bad (K := K) W_bad_row
  have G_parting_field := dat_pf (K := K) W_parting_field
  have G_parting_size := dat_size (K := K) W_parting_size
  have G_parting_pairs := dat_pairs (K := K) W_parting_pairs
  have EP : ErrC P w K mg base "InvalidPanel" := errC_of c (by decide) (T.ec _ (by decide)) (gl _ (by decide))
  have EU : ErrC P w K mg base "Unlike" := errC_of c (by decide) (T.ec _ (by decide)) (gl _ (by decide))
  have GPX := ok_chkPX (P := P) (w := w) (base := base) J_check_panel LP gP EP
  have PXd : DfX P w K mg base 3 "check_panel" sChkP ["panel"] (spChkPX K (ga K "Panel")) := ⟨⟨_, _, J_check_panel, gl _ (by decide), GPX, (J_check_panel.bindsN fun _ _ _ _ _ _ us hl => match us, hl with | [_], _ => rfl)⟩⟩
  have X_check_panels : DfX P w K mg base 4 "check_panels" sChkPs ["one", "other"] (spBadP K (ga K "Panel")) := ⟨⟨_, _, J_check_panels, gl _ (by decide), ok_chkPsX J_check_panels N EU DP PXd, (J_check_panels.bindsN fun _ _ _ _ _ _ us hl => match us, hl with | [_, _], _ => rfl)⟩⟩
  have X_alike : DfX P w K mg base 5 "alike" sAlike ["one", "other"] (spBadP K (ga K "Panel")) := ⟨⟨_, _, J_alike, gl _ (by decide), ok_alikeX J_alike X_check_panels, (J_alike.bindsN fun _ _ _ _ _ _ us hl => match us, hl with | [_, _], _ => rfl)⟩⟩
  have X_bad_row : DfX P w K mg base 5 "bad_row" sBad ["one", "other"] (spBadP K (ga K "Panel")) := ⟨⟨_, _, J_bad_row, gl _ (by decide), ok_bad_rowX J_bad_row X_check_panels, (J_bad_row.bindsN fun _ _ _ _ _ _ us hl => match us, hl with | [_, _], _ => rfl)⟩⟩
  have X_beyond : DfX P w K mg base 5 "beyond" sBeyond ["one", "other"] (spBadP K (ga K "Panel")) := ⟨⟨_, _, J_beyond, gl _ (by decide), ok_beyondX J_beyond X_check_panels, (J_beyond.bindsN fun _ _ _ _ _ _ us hl => match us, hl with | [_, _], _ => rfl)⟩⟩
  have X_parting_field : DfX P w K mg base 5 "parting_field" sPF ["one", "other"] (spBadP K (ga K "Panel")) := ⟨⟨_, _, J_parting_field, gl _ (by decide), ok_parting_fieldX J_parting_field X_check_panels, (J_parting_field.bindsN fun _ _ _ _ _ _ us hl => match us, hl with | [_, _], _ => rfl)⟩⟩
  have X_parting_pairs : DfX P w K mg base 5 "parting_pairs" sPPairs ["one", "other"] (spBadP K (ga K "Panel")) := ⟨⟨_, _, J_parting_pairs, gl _ (by decide), ok_parting_pairsX J_parting_pairs X_check_panels, (J_parting_pairs.bindsN fun _ _ _ _ _ _ us hl => match us, hl with | [_, _], _ => rfl)⟩⟩
  have X_parting_size : DfX P w K mg base 5 "parting_size" sPSize ["one", "other"] (spBadP K (ga K "Panel")) := ⟨⟨_, _, J_parting_size, gl _ (by decide), ok_parting_sizeX J_parting_size X_check_panels, (J_parting_size.bindsN fun _ _ _ _ _ _ us hl => match us, hl with | [_, _], _ => rfl)⟩⟩
  have X_within : DfX P w K mg base 6 "within" sWithin ["one", "other"] (spBadP K (ga K "Panel")) := ⟨⟨_, _, J_within, gl _ (by decide), ok_withinX J_within X_bad_row, (J_within.bindsN fun _ _ _ _ _ _ us hl => match us, hl with | [_, _], _ => rfl)⟩⟩
  have X_ipf : DfX P w K mg base 5 "is_parting_field" sIPF ["one", "other", "value"] (spBadP3 K (ga K "Panel")) := ⟨⟨_, _, J_is_parting_field, gl _ (by decide), ok_is_parting_fieldX J_is_parting_field X_check_panels, (J_is_parting_field.bindsN fun _ _ _ _ _ _ us hl => match us, hl with | [_, _, _], _ => rfl)⟩⟩
  have X_called : DfX P w K mg base 7 "_law_called" sCalled ["_law_way", "_law_one", "_law_other"] (spCalled K (ga K "Panel")) := ⟨⟨_, _, J__law_called, gl _ (by decide), ok_called J__law_called G_alike X_alike G_bad_row X_bad_row G_beyond X_beyond G_parting_field X_parting_field G_parting_pairs X_parting_pairs G_parting_size X_parting_size G_within X_within W_is_parting_field X_ipf, (J__law_called.bindsN fun _ _ _ _ _ _ us hl => match us, hl with | [_, _, _], _ => rfl)⟩⟩
  have CC : CatC K mg := ⟨fun w => by cases w <;> exact (fun h => ⟨ExcC.hg h, ExcC.hk h, ExcC.hs h, ExcC.hd h⟩) (T.xc _ (by decide)), fun w => by cases w <;> exact (T.ec _ (by decide)).nv, fun w => by cases w <;> exact gl _ (by decide), fun v w => by cases v <;> cases w <;> exact T.ex _ (by decide) _ (by decide)⟩
  have OO : PanO K (ga K "Panel") := panO_of T.pan.y.no T.kt
  have W_law_panel : Df P w K mg base 6 "_law_panel" sLPan ["_law_purse_here", "_law_names_here", "_law_rows"] (spLPan (ga K "Panel")) := ⟨⟨_, _, J__law_panel, gl _ (by decide), ok_lpan J__law_panel LP T.pan.mkr gP I___init__ GIn LS, (J__law_panel.bindsN fun _ _ _ _ _ _ us hl => match us, hl with | [_, _, _], _ => rfl)⟩⟩
  have W_law_odds : Df P w K mg base 6 "_law_odds" sOdds ["_law_names_here", "_law_rows"] (spOdds K (ga K "Panel")) := ⟨⟨_, _, J__law_odds, gl _ (by decide), ok_odds J__law_odds OO T.pan.mkr gP I___init__ GIn, (J__law_odds.bindsN fun _ _ _ _ _ _ us hl => match us, hl with | [_, _], _ => rfl)⟩⟩
  have W_law_fell : Df P w K mg base 8 "_law_fell" sFell ["_law_way", "_law_one", "_law_other"] (spFell K (ga K "Panel")) := ⟨⟨_, _, J__law_fell, gl _ (by decide), ok_fell J__law_fell CC X_called, (J__law_fell.bindsN fun _ _ _ _ _ _ us hl => match us, hl with | [_, _, _], _ => rfl)⟩⟩
  have W_law_is_held : Df P w K mg base 1 "_law_is_held" sHeld ["_law_field", "_law_odd"] (spHeld K) := ⟨⟨_, _, J__law_is_held, gl _ (by decide), ok_held J__law_is_held LP LZ, (J__law_is_held.bindsN fun _ _ _ _ _ _ us hl => match us, hl with | [_, _], _ => rfl)⟩⟩
  have W_law_strange : Df P w K mg base 1 "_law_strange" sStrange ["_law_names_here"] spStrange := ⟨⟨_, _, J__law_strange, gl _ (by decide), ok_strange J__law_strange, (J__law_strange.bindsN fun _ _ _ _ _ _ us hl => match us, hl with | [_], _ => rfl)⟩⟩
  have W_law_unlike : Df P w K mg base 6 "_law_unlike" sUnl ["_law_names_here", "_law_rows"] (spUnl (ga K "Panel")) := ⟨⟨_, _, J__law_unlike, gl _ (by decide), ok_unl J__law_unlike W_law_strange T.pan.mkr gP I___init__ GIn, (J__law_unlike.bindsN fun _ _ _ _ _ _ us hl => match us, hl with | [_, _], _ => rfl)⟩⟩
  have W_law_falls : Df P w K mg base 9 "_law_falls" sFalls ["_law_way", "_law_names_here", "_law_rows", "_law_one", "_law_other"] (spFalls K (ga K "Panel")) := ⟨⟨_, _, J__law_falls, gl _ (by decide), ok_falls J__law_falls W_law_odds W_law_fell W_law_is_held W_law_unlike, (J__law_falls.bindsN fun _ _ _ _ _ _ us hl => match us, hl with | [_, _, _, _, _], _ => rfl)⟩⟩
  have W_law_by_names : Df P w K mg base 7 "_law_by_names" sBN ["_law_one", "_law_other", "_law_names_here"] (spBN (ga K "Panel")) := ⟨⟨_, _, J__law_by_names, gl _ (by decide), ok_bn J__law_by_names G_within G_alike G_beyond G_bad_row G_parting_field G_parting_size G_parting_pairs W_is_parting_field, (J__law_by_names.bindsN fun _ _ _ _ _ _ us hl => match us, hl with | [_, _, _], _ => rfl)⟩⟩
  have W_law_shown : Df P w K mg base 3 "_law_shown" sShown ["_law_panel_here"] (spShown (ga K "Panel")) := ⟨⟨_, _, J__law_shown, gl _ (by decide), ok_shown J__law_shown L N, (J__law_shown.bindsN fun _ _ _ _ _ _ us hl => match us, hl with | [_], _ => rfl)⟩⟩
  exact ok_law J_law L LPS LD LN LR W_law_panel W_law_falls W_law_by_names W_law_shown
end G14

set_option maxHeartbeats 0
open PySem PySem.W PySem.Calls PyProof.Rows
theorem PySem.Challenge.cw_cardpanel_k14_alike_refused_and_by_name_holds : PySem.Challenge.rw_cardpanel_k14_alike_refused_and_by_name.Holds := by
  w_on; o_law
  refine HandSHeadRun.head_any (r := G14.R) (q := view G14.R.prog [81]) (H := G14.hk) (ob := G14.ob) (M := 20000) (loose := G14.others) (d := HandSHeadRun.topDef G14.R.prog 81) (kwd := []) G14.ob_eq
    (by kernel_rfl) (fun s => by kernel_rfl) G14.run (by kernel_rfl) (by kernel_rfl) (by kernel_rfl) (by rfl) (by first | assumption | decide +kernel) (by decide +kernel) ⟨rfl, rfl, rfl, rfl, rfl, by decide +kernel⟩ ?hw ?hc
  case hw => w_witness2
  case hc =>
    refine G1.walk_ofG (l := PySem.Challenge.rw_cardpanel_k14_alike_refused_and_by_name) (n := 63) (k := 10) (x := "_law_script") rfl (by decide) (by kernel_rfl) ⟨rfl, by decide, by decide⟩ ?F
    intro w mg fa h Y G hmg0
    obtain ⟨K, KX, c⟩ := Y
    have hmg : mg ("law" : PySem.Str) = some (.ref fa) := by
      have e : (HandSHeadRun.topDef G14.R.prog 81).name = ("law" : PySem.Str) := by kernel_rfl
      rw [← e]
      exact hmg0
    obtain ⟨fd, hb, hF⟩ := G14.law_of (P := PySem.Challenge.rw_cardpanel_k14_alike_refused_and_by_name.prog) (w := w) KX G hmg c
    exact ⟨K, fd, G14.spLaw K, KX, hb, fun H a ns hl _ hS => ⟨a, ns, rfl, hS, fun _ => rfl⟩, hF⟩
