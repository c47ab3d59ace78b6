import PyProof.Rows.All
import HandS.Call
import KE.OsArith
import Wide.All
import OpenK.AllK
import Wide.FinOn
import KE.KStateDown
import HandS.ForMost
import HandS.Exc
import HandS.ExcOwn
import HandS.ExcInit
import HandS.ExcValue
import HandS.IsInst
import HandS.ExcIs
import HandS.Wide
import HandS.WideBits
import HandS.Defaults
import HandS.Head0
import HandS.Head1
import HandS.Head2
import HandS.HeadEnd
import HandS.HeadHook1
import HandS.HeadHook2
import HandS.Strs
import HandS.Set
import PyProof.Rows.SortShellAny
import KE.KDictList
import HandS.Dict
import HandS.Iter
import HandS.WordsDict
import HandS.DictComp
import PySem.Challenge.RW_cardpanel_k24_whole_trees_of_heats
import HandS.More
import HandS.Style
import HandS.Text
import PyProof.EqAt
import PyProof.EqKinds
import PyProof.NeKinds
import PyProof.InstNe
import OpenK.KOps
import HandS.Deep
import HandS.Zip
import HandS.Flow
import HandS.TryMany
import HandS.Walk
import HandS.List
import KE.SortData
import KE.DataCmp
import HandS.SortKw
import KE.DataMinMax
import ObjForm.LawKit
import HandS.NoneIn
import HandS.MakeKwOnly
import PyProof.FitsInt
import HandS.MakeKw
set_option Elab.async false
set_option linter.all false
set_option maxRecDepth 100000
set_option maxHeartbeats 4000000
/-! Sets of names as masks: a bit for each place of the list of all names. -/
namespace G1
open PySem
theorem band_nat (a b : Nat) : Builtin.bitAnd (a : Int) (b : Int) = ((a &&& b : Nat) : Int) := by
  unfold Builtin.bitAnd
  rw [decide_eq_true (show (0 : Int) ≤ (a : Int) by omega), decide_eq_true (show (0 : Int) ≤ (b : Int) by omega)]
  simp
theorem bnot_nat (a : Nat) : (Builtin.bitNot (Builtin.bitNot (a : Int))) = (a : Int) := by
  unfold Builtin.bitNot
  omega
theorem bor_nat (a b : Nat) : Builtin.bitOr (a : Int) (b : Int) = ((a ||| b : Nat) : Int) := by
  have n1 : ¬ (0 : Int) ≤ Builtin.bitNot (a : Int) := by unfold Builtin.bitNot; omega
  have n2 : ¬ (0 : Int) ≤ Builtin.bitNot (b : Int) := by unfold Builtin.bitNot; omega
  unfold Builtin.bitOr Builtin.bitAnd
  rw [decide_eq_false n1, decide_eq_false n2]
  simp only [bnot_nat, Int.toNat_natCast]
/-- a & ~b -/
theorem bandnot_nat (a b : Nat) : Builtin.bitAnd (a : Int) (Builtin.bitNot (b : Int)) = ((a - (a &&& b) : Nat) : Int) := by
  have n2 : ¬ (0 : Int) ≤ Builtin.bitNot (b : Int) := by unfold Builtin.bitNot; omega
  have le : a &&& b ≤ a := Nat.and_le_left
  unfold Builtin.bitAnd
  rw [decide_eq_true (show (0 : Int) ≤ (a : Int) by omega), decide_eq_false n2]
  simp only [bnot_nat, Int.toNat_natCast]
  omega
/-- the mask of those names of xs that p holds of -/
def msk (p : Str → Bool) : List Str → Nat
  | [] => 0
  | x :: xs => (if p x then 1 else 0) + 2 * msk p xs
theorem msk_bit0 {p : Str → Bool} {x : Str} {xs : List Str} : (msk p (x :: xs)).testBit 0 = p x := by
  show ((if p x then 1 else 0) + 2 * msk p xs).testBit 0 = p x
  cases p x with
  | true => simp [Nat.testBit_zero]
  | false => simp [Nat.testBit_zero]
theorem msk_bitS {p : Str → Bool} {x : Str} {xs : List Str} {i : Nat} : (msk p (x :: xs)).testBit (i + 1) = (msk p xs).testBit i := by
  show ((if p x then 1 else 0) + 2 * msk p xs).testBit (i + 1) = _
  rw [Nat.testBit_succ]
  congr 1
  cases p x with
  | true =>
    rw [if_pos rfl]
    omega
  | false =>
    rw [if_neg Bool.false_ne_true]
    omega
theorem msk_test {p : Str → Bool} : ∀ {xs : List Str} {i : Nat}, (msk p xs).testBit i = (xs[i]?.map p).getD false
  | [], i => by
    show (0 : Nat).testBit i = _
    simp
  | x :: xs, 0 => by
    rw [msk_bit0]
    rfl
  | x :: xs, i + 1 => by
    rw [msk_bitS, msk_test (xs := xs) (i := i)]
    rfl
section
variable {p q : Str → Bool} {xs : List Str}
theorem msk_or : msk p xs ||| msk q xs = msk (fun x => p x || q x) xs := by
  refine Nat.eq_of_testBit_eq fun i => ?_
  rw [Nat.testBit_or, msk_test, msk_test, msk_test]
  cases xs[i]? <;> rfl
theorem msk_and : msk p xs &&& msk q xs = msk (fun x => p x && q x) xs := by
  refine Nat.eq_of_testBit_eq fun i => ?_
  rw [Nat.testBit_and, msk_test, msk_test, msk_test]
  cases xs[i]? <;> rfl
theorem msk_inj : msk p xs = msk q xs ↔ ∀ x ∈ xs, p x = q x := by
  constructor
  · intro e x hx
    obtain ⟨i, hi, ei⟩ := List.mem_iff_getElem.mp hx
    have t := congrArg (fun n => Nat.testBit n i) e
    simp only [msk_test] at t
    rw [List.getElem?_eq_getElem hi, ei] at t
    exact t
  · intro h
    refine Nat.eq_of_testBit_eq fun i => ?_
    rw [msk_test, msk_test]
    cases e : xs[i]? with
    | none => rfl
    | some x => exact h x (List.mem_of_getElem? e)
theorem msk_false : ∀ {xs : List Str}, msk (fun _ => false) xs = 0
  | [] => rfl
  | x :: xs => by
    show (if false = true then 1 else 0) + 2 * msk (fun _ => false) xs = 0
    rw [msk_false]
    rfl
theorem msk_zero : msk p xs = 0 ↔ ∀ x ∈ xs, p x = false := by
  rw [← msk_false (xs := xs)]
  exact msk_inj
/-- all of p are q: what holds_one asks -/
theorem msk_sub : msk p xs - (msk p xs &&& msk q xs) = 0 ↔ ∀ x ∈ xs, p x = true → q x = true := by
  have le : msk p xs &&& msk q xs ≤ msk p xs := Nat.and_le_left
  rw [show (msk p xs - (msk p xs &&& msk q xs) = 0) ↔ (msk p xs &&& msk q xs = msk p xs) from ⟨fun h => by omega, fun h => by omega⟩, msk_and, msk_inj]
  refine ⟨fun h x hx e => ?_, fun h x hx => ?_⟩
  · have := h x hx
    rw [e, Bool.true_and] at this
    exact this
  · cases e : p x with
    | false => rfl
    | true => rw [h x hx e]; rfl
/-- the bit of one name -/
theorem msk_one : ∀ {xs : List Str} {i : Nat} {x : Str}, xs.Nodup → xs[i]? = some x → msk (fun y => y == x) xs = 2 ^ i
  | y :: ys, 0, x, nd, e => by
    cases e
    obtain ⟨h, _⟩ := List.nodup_cons.mp nd
    show (if (y == y) = true then 1 else 0) + 2 * msk _ ys = 1
    have z : msk (fun z => z == y) ys = 0 := msk_zero.mpr fun z hz => beq_eq_false_iff_ne.mpr fun q => h (q ▸ hz)
    rw [z, if_pos (beq_self_eq_true y)]
  | y :: ys, i + 1, x, nd, e => by
    obtain ⟨h, n2⟩ := List.nodup_cons.mp nd
    have e2 : ys[i]? = some x := e
    have hx := List.mem_of_getElem? e2
    show (if (y == x) = true then 1 else 0) + 2 * msk _ ys = 2 ^ (i + 1)
    have ne : (y == x) = false := beq_eq_false_iff_ne.mpr fun q => h (q ▸ hx)
    rw [msk_one n2 e2, ne, if_neg Bool.false_ne_true, Nat.pow_succ]
    omega
theorem msk_le (h : ∀ x ∈ xs, p x = true → q x = true) : msk p xs ≤ msk q xs := by
  have e : msk p xs &&& msk q xs = msk p xs := by
    have := msk_sub.mpr h
    have le : msk p xs &&& msk q xs ≤ msk p xs := Nat.and_le_left
    omega
  rw [← e]
  exact Nat.and_le_right
theorem msk_lt : ∀ {xs : List Str}, msk p xs < 2 ^ xs.length
  | [] => by show 0 < 1; decide
  | x :: xs => by
    have ih := msk_lt (xs := xs)
    show (if p x then 1 else 0) + 2 * msk p xs < 2 ^ (xs.length + 1)
    rw [Nat.pow_succ]
    split <;> omega
end
end G1

set_option maxHeartbeats 4000000
/-! Own rules over the hand layer: calls where no repr runs, repr of data, powers. -/
namespace G1
open PySem PySem.Spec PyProof.Rows L2
/-- no guard of a repr stands around -/
abbrev Gd (A : Around) : Prop := A.guards = some []
/-- a def's promise where no guard stands around -/
structure FnG (P : Program) (w : World) (K : PySem.W.Frag) (mg : Str → Option Value) (base : Heap) (k : Nat) (f : Addr) (fd : FuncData) (ps : List Str) (sp : Sp) : Prop where
  len : ∀ vs H Q E, sp vs H Q E → vs.length = ps.length
  run : ∀ (A : Around) (outer : List Env) (s : Shared) (H : Hp) (args : Args) (us : List Value) (vs : List V) (Q : VK) (E : XK), Gd A → Room k A → Env0 P w K mg base A outer s H →
    BindsTo s fd args (ps.zip us) → Vals vs us → sp vs H Q E → codeAny (model P w) A (.call (.ref f) args) (CR CX0 outer P w H s Q E) s
section
variable {P : Program} {w : World} {K : PySem.W.Frag} {mg : Str → Option Value} {base : Heap}
theorem FnG.body {k : Nat} {f : Addr} {nm ql : Str} {pr : Arguments} {bd : List Stmt} {sc : Scope} {dV kV doc pm cdv ct oc : Value} {an od : Option Addr}
    {osl : Array (Option Value)} {N ps : List Str} {sp : Sp} (lk : K.lookup f = some ⟨oc, od, .func (PySem.W.fnOf nm ql pr bd sc dV kV doc pm an cdv ct), osl⟩)
    (hcd : PySem.W.codeIn K cdv ql = true) (S : FnScope N ps sc) (len : ∀ vs H Q E, sp vs H Q E → vs.length = ps.length)
    (hb : ∀ (A : Around) (outer : List Env) (s : Shared) (H : Hp) (vs : List V) (Q : VK) (E : XK), Gd A → Room k (A.deeper (envOfC ql sc s.heap.objs.size f cdv)) → sp vs H Q E →
      ∃ t, PSs (cxOf CX0 P w K mg base N ql sc f cdv A outer s H E) bd t ∧ t { nx := fun _ H' => Q .non H', rt := Q } (start N vs) H) :
    FnG P w K mg base (k + 1) f (PySem.W.fnOf nm ql pr bd sc dV kV doc pm an cdv ct) ps sp := by
  refine ⟨len, fun A outer s H args us vs Q E hg hr e0 => ?_⟩
  -- the library's rule for every surroundings, asked of a promise that holds at these alone
  intro hbi r hsp
  have hl := len _ _ _ _ hsp
  have KX : K.In s.heap := e0.mod.kin.keeps fun b o e => (e0.bs b o e).1
  have hkd : ∀ y ∈ ps.zip us, sc.names.lookup y.1 = some .local ∨
      (sc.names.lookup y.1 = some .cell ∧ ((cellsFrom (s.heap.objs.size + 1) sc.names []).lookup y.1).isSome = true) := by
    rintro ⟨n, v⟩ hy
    cases S.par n (List.of_mem_zip hy).1 with
    | inl q => exact .inl q
    | inr q => exact .inr ⟨q, PySem.W.cellsFrom_some _ _ _ (.inl q)⟩
  apply codeAny_call_function hr.depth (KX _ _ lk) rfl S.co S.gen rfl (PySem.W.codeRec_of KX hcd) (hbi _ _ _ _ _)
  apply wpAny_newFunctionEnv_cells S.kind hkd
  rintro env rfl s1 x
  refine ⟨(e0.mod.nolimit.keeps fun b o e => (e0.bs b o e).1).keeps x.toInCall.keep, codeAny_func ?_⟩
  obtain ⟨t, ht, hq⟩ := hb A outer s H vs Q E hg (hr.deeper _) hsp
  have run := ht.run [] s1 (start N vs) H _ (inv_start S hr.hd e0 hl r x) hq
  refine wpAny_mono run ?_ (fun _ _ h => h)
  rintro (_ | _ | _ | u) s' hs
  · obtain ⟨σ', H', J, q⟩ := hs
    exact ⟨.non, H', J.os, J.bare, J.base, J.hok, rfl, q⟩
  · obtain ⟨_, _, _, q⟩ := hs
    exact q.elim
  · obtain ⟨_, _, _, q⟩ := hs
    exact q.elim
  · obtain ⟨v, σ', H', J, rv, q⟩ := hs
    exact ⟨v, H', J.os, J.bare, J.base, J.hok, rv, q⟩
end
end G1

set_option maxHeartbeats 4000000
namespace G1
open PySem PySem.Spec PyProof.Rows L2
section
variable {X : Cx} {k : Nat} {f : Addr} {fd : FuncData} {ps : List Str} {sp : Sp} {dvs : List V} {ds : List Value} {x : Str} {p pos : Pos} {e : Expr} {es : List Expr} {t : TA}
theorem go_fn {pins : List (Addr × Obj)} {σ : L2.St} {H : Hp} {s : Shared} {Q : VK} {us : List Value} {vs : List V} (F : FnG X.prog X.w X.K X.mg X.base k f fd ps sp) (hg : Gd X.A) (hr : Room k X.A)
    (hb : Binds X.K fd ps ds) (hd : Vals dvs ds) (I : Inv X pins σ H s) (r : Vals vs us) (h : sp (vs ++ dvs) H Q E0) :
    wpAny (model X.prog X.w) X.A (call (.ref f) us) (EP X pins σ Q) X.xe s := by
  have r2 : Vals (vs ++ dvs) (us ++ ds) := r.append hd
  have hl : (us ++ ds).length = ps.length := r2.length.symm.trans (F.len _ _ _ _ h)
  apply wpAny_call
  refine codeAny_mono (F.run X.A X.stack s H ⟨us, []⟩ (us ++ ds) (vs ++ dvs) Q E0 hg hr I.env0 (hb s us I.kIn hl) r2 h) ?_
  rintro (er | (_ | _ | _ | u)) s' hq
  · exact False.elim hq
  · exact hq.elim
  · exact hq.elim
  · exact hq.elim
  · exact I.after hq
theorem pe_callG (F : FnG X.prog X.w X.K X.mg X.base k f fd ps sp) (hgd : Gd X.A) (hr : Room k X.A) (hg : Gl X x) (hm : X.mg x = some (.ref f)) (hk : PySem.W.keepIn X.K (.ref f) = true)
    (hb : Binds X.K fd ps ds) (hd : Vals dvs ds) (ha : PA X (e :: es) t) (hdb : (x == ("__debug__" : Str)) = false := by decide)
    (he : starEach (e :: es) X.env = (false, eval e X.env) :: starEach es X.env := by rfl) (hpl : (backTo pos (starEach es X.env)).any (·.1) = false := by rfl) :
    PE X (.Call (.Name x p) (e :: es) [] pos) (tCall sp dvs E0 t) := by
  constructor
  intro pins s σ H Q I h
  apply wpAny_Call_Name_kw (ld_glob I hg hm ?_ hdb)
  exact PySem.W.callWith_K (h₀ := X.base) I.ok.mod.kin hk (thn (ha.run pos pins s σ H _ I h) fun us s1 ⟨vs, H1, I1, r, q⟩ => ⟨I1.kIn, go_fn F hgd hr hb hd I1 r q⟩) he hpl
end
/-! ### the law itself, called where no guard stands -/
theorem gd_caller : Gd callerA := rfl
section
variable {P : Program} {w : World} {K : PySem.W.Frag} {mg mb : Str → Option Value} {k : Nat} {fa a : Addr} {fd : FuncData} {x : Str} {sp : Sp} {s₁ : Shared} {vs : List Value} {ns : List Int}
/-- from an abstract heap in which nothing but the script is told -/
theorem law_at {H : Hp} (KX : K.In s₁.heap) (hns : s₁.heap.Ns mainGlobals mg) (hb : s₁.heap.Ns builtinsNs mb) (hbb : ∀ x : Str, x ≠ "__name__" → mb x = bootBuiltins x) (hlim : s₁.heap.NoLimit) (hg : s₁.gens = #[])
    (ha : s₁.heap.get? a = some { cls := .type "list", data := .seq vs.toArray }) (hr : Room k callerA)
    (F : ∀ base : Heap, K.In base → base.Ns mainGlobals mg → FnG P w K mg base k fa fd [x] sp) (hbind : ∀ (s : Shared) (u : Value), BindsTo s fd ⟨[u], []⟩ [(x, u)])
    (hO : Only H) (hS : SqL K H a (ns.map V.int)) (hok : HOk P w H s₁.heap) (hA : ∀ b, H b ≠ none → b = a) (hK : H a ≠ none → K.lookup a = none)
    (hsp : sp [.ref a] H (fun v _ => v = .bl true) fun _ _ _ => False) :
    codeAny (model P w) callerA (.call (.ref fa) ⟨[.ref a], []⟩) (fun r s' => r = .ok (.ret (.bool true)) ∧ OldK s₁.heap s'.heap ∧ s'.os = s₁.os ∧ AllBare s'.gens) s₁ := by
  have one : ∀ {b : Addr}, (∀ z, H b ≠ some z) → H b = none := fun {b} n => by
    cases q : H b with
    | none => rfl
    | some u => exact (n u q).elim
  have hid : ∀ {b : Addr} {o : Obj} {es : Array DictEntry} {ep : Nat}, s₁.heap.get? b = some o → o.data = .dict es ep → (hidT s₁.heap H).get? b = some o := by
    intro b o es ep e d
    refine hidT_get e (one fun z q => ?_)
    have eb := hA b (by rw [q]; simp)
    subst eb
    rw [ha] at e
    cases e
    exact (show Data.seq vs.toArray _ ≠ Data.dict es ep from fun z => by cases z) d
  have ns_ : ∀ {b : Addr} {m : Str → Option Value}, s₁.heap.Ns b m → (hidT s₁.heap H).Ns b m := by
    rintro b m ⟨o, es, ep, e, d, r⟩
    exact ⟨o, es, ep, hid e d, d, r⟩
  have KB : K.In (hidT s₁.heap H) := by
    intro b o e
    refine hidT_get (KX b o e) (one fun z q => ?_)
    have eb := hA b (by rw [q]; simp)
    subst eb
    rw [hK (by rw [q]; simp)] at e
    cases e
  obtain ⟨mc, l1, l2⟩ := hlim
  have M0 : Mod K mg (hidT s₁.heap H) := ⟨KB, ns_ hns, ⟨mb, ns_ hb, hbb⟩, ⟨mc, ns_ l1, l2⟩⟩
  have nofs : ∀ {b : Addr}, b ∉ frs ([] : List Env) := fun {b} z => by
    have z' : b ∈ ([] : List Addr) := z
    simp at z'
  have E1 : Env0 P w K mg (hidT s₁.heap H) callerA [] s₁ H := {
    frames := rfl
    mod := M0
    bs := fun b o e => of_hidT e
    bsz := Nat.le_of_eq (hidT_size _ _)
    funs := trivial
    frf := fun b z => (nofs z).elim
    hok := hok
    bare := .of_eq hg }
  refine codeAny_mono ((F _ KB (ns_ hns)).run callerA [] s₁ H ⟨[.ref a], []⟩ [.ref a] [.ref a] _ _ gd_caller hr E1 (hbind s₁ (.ref a)) (.cons rfl .nil) hsp) ?_
  rintro (er | (_ | _ | _ | u)) s' h
  · exact False.elim h
  · exact False.elim h
  · exact False.elim h
  · exact False.elim h
  · obtain ⟨v, H', eos, bare, un, hok', r', q⟩ := h
    have q' : v = .bl true := q
    subst q'
    have eu : u = Value.bool true := r'
    subst eu
    refine ⟨rfl, OldK.of_keep fun b o e => ?_, eos, bare⟩
    rcases hO b with z | ⟨ob, xs, z⟩
    · exact un.keep b o e z nofs (by simp)
    · obtain ⟨e2, _⟩ := hok' b _ (un.frzs b ob _ z)
      obtain ⟨e1, _⟩ := hok b _ z
      rw [e] at e1
      cases e1
      exact e2
theorem law_callG (KX : K.In s₁.heap) (hns : s₁.heap.Ns mainGlobals mg) (hb : s₁.heap.Ns builtinsNs mb) (hbb : ∀ x : Str, x ≠ "__name__" → mb x = bootBuiltins x) (hlim : s₁.heap.NoLimit) (hg : s₁.gens = #[])
    (ha : s₁.heap.get? a = some { cls := .type "list", data := .seq vs.toArray }) (hi : IntsAre vs ns) (hl : ns.length ≤ sizeLine) (hr : Room k callerA)
    (F : ∀ base : Heap, K.In base → base.Ns mainGlobals mg → FnG P w K mg base k fa fd [x] sp) (hbind : ∀ (s : Shared) (u : Value), BindsTo s fd ⟨[u], []⟩ [(x, u)])
    (hsp : ∀ H : Hp, Only H → SqL K H a (ns.map V.int) → sp [.ref a] H (fun v _ => v = .bl true) fun _ _ _ => False) :
    codeAny (model P w) callerA (.call (.ref fa) ⟨[.ref a], []⟩) (fun r s' => r = .ok (.ret (.bool true)) ∧ OldK s₁.heap s'.heap ∧ s'.os = s₁.os ∧ AllBare s'.gens) s₁ := by
  have rv := vals_ints hi
  cases hk : K.lookup a with
  | some o =>
    have e := KX a o hk
    rw [ha] at e
    cases e
    have S : SqL K (fun _ => none) a (ns.map V.int) := .inr ⟨_, vs.toArray, _, hk, rfl, rfl, rfl, by rw [List.size_toArray, hi.length]; exact hl, by simpa using rv⟩
    exact law_at KX hns hb hbb hlim hg ha hr F hbind (fun _ => .inl rfl) S (fun _ _ z => nomatch z) (fun _ z => (z rfl).elim) (fun z => (z rfl).elim) (hsp _ (fun _ => .inl rfl) S)
  | none =>
    have yes : ∀ u : HO, (fun b : Addr => if b = a then some u else none) a = some u := fun u => if_pos rfl
    have no : ∀ {u : HO} {b : Addr}, b ≠ a → (fun b : Addr => if b = a then some u else none) b = none := fun {u b} n => if_neg n
    have O : Only (fun b : Addr => if b = a then some (HO.frz { cls := .type "list", data := .seq vs.toArray } (.lst (ns.map V.int))) else none) := by
      intro b
      by_cases q : b = a
      · exact .inr ⟨_, _, if_pos q⟩
      · exact .inl (if_neg q)
    have S := hsp _ O (.inl (.inr ⟨_, yes _⟩))
    refine law_at KX hns hb hbb hlim hg ha hr F hbind O (.inl (.inr ⟨_, yes _⟩)) (fun b u z => ?_) (fun b z => ?_) (fun _ => hk) S
    · by_cases q : b = a
      · subst q
        have z' := (yes _).symm.trans z
        cases z'
        exact ⟨ha, by rw [List.length_map]; exact hl, vs, _, rv, ha⟩
      · rw [if_neg q] at z
        cases z
    · by_cases q : b = a
      · exact q
      · exact (z (no q)).elim
end
theorem walk_ofG {l : PySem.W.OpenLaw} {n k : Nat} {q : Program} {loose : List Str} {XP : (Str → Option Value) → Heap → Prop} {YP : World → Heap → Prop} {d : DefRec} {x : Str}
    (hn : l.most = some n) (hn2 : n ≤ sizeLine) (hdf : d.params.defaults = []) (hr : Room k callerA)
    (F : ∀ (w : World) (mg : Str → Option Value) (fa : Addr) (h : Heap), YP w h → h.Ns mainGlobals mg → mg d.name = some (.ref fa) →
      ∃ (K : PySem.W.Frag) (fd : FuncData) (sp : Sp), K.In h ∧ (∀ (s : Shared) (u : Value), BindsTo s fd ⟨[u], []⟩ [(x, u)]) ∧
        (∀ (H : Hp) (a : Addr) (ns : List Int), ns.length ≤ n → Only H → SqL K H a (ns.map V.int) → sp [.ref a] H (fun v _ => v = .bl true) fun _ _ _ => False) ∧
        ∀ base : Heap, K.In base → base.Ns mainGlobals mg → FnG l.prog w K mg base k fa fd [x] sp) :
    PySem.W.WalkO q loose XP YP l.row.toRowW d [] (fun f vs => PySem.call f vs) := by
  apply Att.attach_call hn hdf
  intro w s₀ s₁ mg mb fa o pm cd doc a vs ns G Y ho hd hcd hmg hobj hints hlen hg
  obtain ⟨K, fd, sp, KX, hb, hsp, hF⟩ := F w mg fa _ Y G.T.g hmg
  exact law_callG KX G.T.g G.T.b G.T.builtins G.T.nolimit hg hobj hints (Nat.le_trans hlen hn2) hr hF hb fun H hO hS => hsp H a ns hlen hO hS
end G1

set_option maxHeartbeats 4000000
/-! C(name = v), C an own exception class over ValueError with an __init__ of its own. -/
namespace G1
open PySem PySem.W PySem.Calls PyProof.Rows PySem.HandSPX
section
variable {prog : Program} {w : World} {A : Around} {E : Value → Shared → Prop} {R : Result → Shared → Prop} {h : Heap} {g : Array GenState} {d : Drawn} {t : Nat} {os : OsState}
variable {nm q : Str} {C N : Addr} {bs bm : List Value} {hdct : Bool} {sn : List Str} {sub : List Value} {ab : Bool} {col : Option Bool} {dd : Option Addr} {k0 k1 k2 k3 k5 : Option Value}
abbrev veC (nm q : Str) (C N : Addr) (bs bm : List Value) (hdct : Bool) (sn : List Str) (sub : List Value) (ab : Bool) (col : Option Bool) (dd : Option Addr) (k0 k1 k2 k3 k5 : Option Value) : Obj :=
  excClassObj nm q C N bs bm hdct sn sub ab col dd k0 k1 k2 k3 k5 "ValueError.__new__"
theorem kw_new (hb : refsVE bm = true) {v : Value} {y : Str} {Q : Unit → Shared → Prop}
    (hC : h.get? C = some (veC nm q C N bs bm hdct sn sub ab col dd k0 k1 k2 k3 k5)) (hq : Q () ⟨h, g, d, t, os⟩) :
    wpAny (model prog w) A (checkBuiltinCall "ValueError.__new__" ⟨[.ref C], [(y, v)]⟩) Q E ⟨h, g, d, t, os⟩ := by
  have F := F.excBase_ValueError
  have hc : (Value.ref C :: bm).contains (.type "ValueError") = true := by
    rw [List.contains_cons, refsVE_contains "ValueError" bm hb]
    rfl
  have star := F.noStar
  simp only [checkBuiltinCall, F.newKind, F.newSplit, F.newRow]
  repeat (first
    | refine wpAny_loadPart_at hC ?_
    | (refine wpAny_isSubtype_exc hC ?_; rw [hc])
    | refine wpAny_staticBase_exc hC ?_
    | refine wpAny_madeBy_exc hC ?_
    | simp only [bne_self_eq_false, Bool.false_eq_true, if_false]
    | wp_step)
  exact hq
theorem kw_made (hb : refsVE bm = true) {v : Value} {y : Str}
    (hC : h.get? C = some (veC nm q C N bs bm hdct sn sub ab col dd k0 k1 k2 k3 k5))
    (hq : R (.ok (.ret (.ref (h.objs.size + 1)))) ⟨(h.push (W.kdv_tup [])).push (excO C h.objs.size), g, d, t, os⟩) :
    codeAny (model prog w) A (.builtin "ValueError.__new__" ⟨[.ref C], [(y, v)]⟩) R ⟨h, g, d, t, os⟩ := by
  have F := F.excBase_ValueError
  have ends := F.ends
  have c1 : (Value.ref C :: bm).contains (.type "ValueError") = true := by
    rw [List.contains_cons, refsVE_contains "ValueError" bm hb]
    rfl
  have c2 : (Value.ref C :: bm).contains (.type "AttributeError") = false := by
    rw [List.contains_cons, refsVE_contains "AttributeError" bm hb]
    rfl
  have c3 : (Value.ref C :: bm).contains (.type "NameError") = false := by
    rw [List.contains_cons, refsVE_contains "NameError" bm hb]
    rfl
  refine codeAny_builtinAt F.entry ?_
  unfold Builtin.«BaseException.__new__»
  refine PySem.wpAt_bind ?_
  show PySem.wpAt _ _ _ (stack >>= _) _ _ _
  refine PySem.wpAt_bind (PySem.wpAt_stack fun p below => PySem.wpAt_of_wpAny ?_)
  wp_walk
  refine PySem.wpAt_of_wpAny ?_
  rw [F.owner]
  repeat (first
    | with_reducible refine wpAny_madeHere_exc F.canon hC ?_
    | with_reducible refine wpAny_loadPart_at hC ?_
    | (with_reducible refine wpAny_isSubtype_exc hC ?_; first | rw [c1] | rw [c2] | rw [c3])
    | wp_step)
  show R _ _
  rw [Heap.size_push]
  exact hq
theorem kw_chkT {v : Value} {y : Str} {Q : Unit → Shared → Prop}
    (hC : h.get? C = some (veC nm q C N bs bm hdct sn sub ab col dd k0 k1 k2 k3 k5)) (hq : Q () ⟨h, g, d, t, os⟩) :
    wpAny (model prog w) A (checkBuiltinCall "type.__call__" ⟨[.ref C], [(y, v)]⟩) Q E ⟨h, g, d, t, os⟩ := by
  have z := tc_sub
  have hT : (⟨h, g, d, t, os⟩ : Shared).TypeIs (.ref C) "type" := ⟨_, hC, rfl⟩
  simp only [checkBuiltinCall, tc_kind, tc_split]
  repeat (any_goals (first
    | assumption
    | with_reducible refine wpAny_loadPart_at hC ?_
    | with_reducible refine wpAny_onRaise ?_
    | with_reducible refine wpAny_map ?_
    | wp_step))
theorem kw_typeCall (hb : refsVE bm = true) {v : Value} {y : Str} {fI : Addr} {Q : PySem.Fin → Shared → Prop}
    (hC : h.get? C = some (veC nm q C N bs bm hdct sn sub ab col dd k0 k1 k2 k3 k5))
    (hi : W.Looks (model prog w) h (typeLookup (.ref C) "__init__") (some (.ref fI))) (hs : ∀ self, W.Looks (model prog w) h (bindSpecial (.ref fI) self) (.ref fI, [self]))
    (hq : codeAny (model prog w) A (.call (.ref fI) ⟨[.ref (h.objs.size + 1)], [(y, v)]⟩)
      (fun r s' => match r with | .ok (.ret u) => u = .none ∧ Q (.done (.ret (.ref (h.objs.size + 1)))) s' | .ok _ => False | .error e => E e s')
      ⟨(h.push (W.kdv_tup [])).push (excO C h.objs.size), g, d, t, os⟩) :
    wpAny (model prog w) A (Builtin.«type.__call__» ⟨[.ref C], [(y, v)]⟩) Q E ⟨h, g, d, t, os⟩ := by
  have F := F.excBase_ValueError
  repeat (first | with_reducible refine wpAny_loadPart_at hC ?_ | with_reducible refine wpAny_madeBy_exc hC ?_ | wp_step)
  apply codeAny_call_builtin_code (Code.quiet_builtin _ F.quiet) (kw_new hb hC ?_)
  apply kw_made hb hC
  show wpAny _ _ _ _ _ _
  have up : ∀ b o, h.get? b = some o → ((h.push (W.kdv_tup [])).push (excO C h.objs.size)).get? b = some o := fun b o e => Heap.get?_push_of_some _ (Heap.get?_push_of_some _ e)
  have at1 : ((h.push (W.kdv_tup [])).push (excO C h.objs.size)).get? (h.objs.size + 1) = some (excO C h.objs.size) := by heap_get
  have hC1 := up _ _ hC
  have own : (Value.ref C :: bm).contains (.ref C) = true := by simp
  have L1 := hi.keeps up
  have L2 := (hs (.ref (h.objs.size + 1))).keeps up
  unfold isInstance
  repeat (first | with_reducible refine wpAny_loadPart_at at1 ?_ | (with_reducible refine wpAny_isSubtype_exc hC1 ?_; rw [own]) | wp_step)
  show wpAny _ _ (typeLookup (.ref C) _) _ _ _
  refine L1.at ?_
  refine wpAny_holding (wpAny_bind (L2.at ?_))
  refine wpAny_bind (wpAny_call (codeAny_mono hq ?_))
  rintro (e | (_ | _ | _ | u)) s' z
  · exact z
  · exact z.elim
  · exact z.elim
  · exact z.elim
  · obtain ⟨rfl, z⟩ := z
    first
      | exact wpAny_pure (wpAny_pure z)
      | (wp_walk; exact z)
theorem kw_call (hb : refsVE bm = true) {v : Value} {y : Str} {fI : Addr}
    (hC : h.get? C = some (veC nm q C N bs bm hdct sn sub ab col dd k0 k1 k2 k3 k5))
    (hi : W.Looks (model prog w) h (typeLookup (.ref C) "__init__") (some (.ref fI))) (hs : ∀ self, W.Looks (model prog w) h (bindSpecial (.ref fI) self) (.ref fI, [self]))
    (hq : codeAny (model prog w) (A.under (.builtin "type.__call__" ⟨[.ref C], [(y, v)]⟩)) (.call (.ref fI) ⟨[.ref (h.objs.size + 1)], [(y, v)]⟩) (W.InitBack (h.objs.size + 1) R)
      ⟨(h.push (W.kdv_tup [])).push (excO C h.objs.size), g, d, t, os⟩) :
    codeAny (model prog w) A (.call (.ref C) ⟨[], [(y, v)]⟩) R ⟨h, g, d, t, os⟩ := by
  have z1 := tc_lookup
  have z2 := tc_bind (.ref C)
  have hTy : (⟨h, g, d, t, os⟩ : Shared).TypeIs (.ref C) "type" := ⟨_, hC, rfl⟩
  apply codeAny_of_tree
  show wpAny _ _ (callAny (.ref C) _) _ _ _
  repeat (any_goals (first | assumption | with_reducible refine wpAny_loadPart_at hC ?_ | wp_step))
  refine ⟨rfl, ?_⟩
  apply codeAny_call_builtin_at (Code.quiet_builtin _ (by decide +kernel)) entry_typeCall
  apply kw_chkT hC
  apply kw_typeCall hb hC hi hs
  refine codeAny_mono hq ?_
  rintro (e | (_ | _ | _ | u)) s' z <;> exact z
end
end G1

set_option maxHeartbeats 4000000
/-! Own exceptions as values over the layer: made, looked at, asked by isinstance. -/
namespace G1
open PySem PySem.Spec PyProof.Rows L2
/-- the heap behind C(v): the exception at a, its dict at d -/
def errH (H : Hp) (a d C : Addr) (v : V) : Hp := upd (upd (upd H a (exo a C none)) d (exd d [("value", v)])) a (exo a C (some d))
/-- an exception of the class at C that holds v -/
def ErrAt (H : Hp) (a C : Addr) (v : V) : Prop := ∃ d, H a = some (exo a C (some d)) ∧ H d = some (exd d [("value", v)])
theorem errH_at {H : Hp} {a d C : Addr} {v : V} (n : d ≠ a) : ErrAt (errH H a d C v) a C v := ⟨d, upd_same, by unfold errH; rw [upd_ne n, upd_same]⟩
theorem errH_same {H : Hp} {a d C : Addr} {v : V} (ha : H a = none) (hd : H d = none) : Same H (errH H a d C v) := fun b o e => by
  unfold errH
  rw [upd_ne (ne_of_none e ha), upd_ne (ne_of_none e hd), upd_ne (ne_of_none e ha)]
  exact e
theorem ErrAt.same {H H' : Hp} {a C : Addr} {v : V} (h : ErrAt H a C v) (s : Same H H') : ErrAt H' a C v := by
  obtain ⟨d, h1, h2⟩ := h
  exact ⟨d, s _ _ h1, s _ _ h2⟩
def spE (C : Addr) : Sp := fun vs H Q _ => ∃ (a : Addr) (v : V), vs = [.ref a, v] ∧ H a = some (exo a C none) ∧
  ∀ d, H d = none → d ≠ a → Q .non (upd (upd H d (exd d [("value", v)])) a (exo a C (some d)))
/-- what the written part says of such a class and its __init__ -/
structure EC (K : PySem.W.Frag) (C fI : Addr) : Prop where
  t : OexC K C
  x : ExcC K C
  nv : PySem.W.findIn K (.ref C) "value" = some none
  iC : PySem.W.findIn K (.ref C) "__init__" = some (some (.ref fI))
  tI : PySem.W.typeIn K (.ref fI) = some (.type "function")
section
variable {X : Cx} {pins : List (Addr × Obj)} {σ : L2.St} {H : Hp} {s : Shared} {Q : VK} {C fI : Addr} {k : Nat} {fd : FuncData} {ps : List Str} {sp : Sp} {dvs : List V} {ds : List Value} {x : Str} {p pos : Pos}
theorem new_exo (I : Inv X pins σ H s) (us : List Value) : H (s.heap.objs.size + 1) = none ∧
    Inv X pins σ (upd H (s.heap.objs.size + 1) (exo (s.heap.objs.size + 1) C none)) { s with heap := (s.heap.push (PySem.W.kdv_tup us)).push (PySem.HandSPX.excO C s.heap.objs.size) } := by
  obtain ⟨hp, g, dr, tk, os⟩ := s
  have hget : ((hp.push (PySem.W.kdv_tup us)).push (PySem.HandSPX.excO C hp.objs.size)).get? (hp.objs.size + 1) = some (PySem.HandSPX.excO C hp.objs.size) := by heap_get
  refine ⟨I.hok.fresh (Nat.le_succ _), ?_⟩
  exact I.laid (t' := tk) (a := hp.objs.size + 1) (o := exo (hp.objs.size + 1) C none) (h' := (hp.push (PySem.W.kdv_tup us)).push (PySem.HandSPX.excO C hp.objs.size))
    (fun b o e => Heap.get?_push_of_some _ (Heap.get?_push_of_some _ e)) (Nat.le_succ _) (exo_ok hget)
theorem run_mkE {us : List Value} {vs : List V} (T : OexC X.K C) (iC : PySem.W.findIn X.K (.ref C) "__init__" = some (some (.ref fI))) (tI : PySem.W.typeIn X.K (.ref fI) = some (.type "function"))
    (F1 : FnOk X.prog X.w X.K X.mg X.base CX0 k fI fd ps sp) (hr : Room (k + 1) X.A) (hb : Binds X.K fd ps ds) (hd : Vals dvs ds) (I : Inv X pins σ H s) (r : Vals vs us) (hz : vs.length ≤ 1000)
    (h : ∀ a, H a = none → sp (.ref a :: (vs ++ dvs)) (upd H a (exo a C none)) (fun v H2 => v = .non ∧ Q (.ref a) H2) E0) :
    wpAny (model X.prog X.w) X.A (call (.ref C) us) (EP X pins σ Q) X.xe s := by
  obtain ⟨nm, q, N, bs, bm, sn, sub, ab, col, dd, k0, k1, k2, k3, k5, hC, hbm⟩ := T.cls
  obtain ⟨hn, I2⟩ := new_exo (C := C) I us
  have hq := h _ hn
  have r2 : Vals (V.ref (s.heap.objs.size + 1) :: (vs ++ dvs)) (Value.ref (s.heap.objs.size + 1) :: (us ++ ds)) := .cons rfl (r.append hd)
  have hl : (Value.ref (s.heap.objs.size + 1) :: us ++ ds).length = ps.length := r2.length.symm.trans (F1.len _ _ _ _ hq)
  have hus : us.length ≤ sizeLine := by
    rw [← Paired.length r, sizeLine_eq]
    omega
  have KX := I.kIn
  obtain ⟨hp, g, dr, tk, os⟩ := s
  apply wpAny_call
  refine PySem.HandSPX.call_own F.excBase_ValueError (fun Y => PySem.HandSPX.refsVE_contains Y bm hbm) (KX _ _ hC) (PySem.W.looks_findIn KX iC) (fun self => PySem.W.bind_fn KX self tI) hus ?_
  refine codeAny_mono (F1.run _ X.stack _ _ ⟨Value.ref (hp.objs.size + 1) :: us, []⟩ (Value.ref (hp.objs.size + 1) :: (us ++ ds)) _ _ E0 (hr.make C us []) (I2.env0.make C us []) (hb _ (Value.ref (hp.objs.size + 1) :: us) I2.kIn hl) r2 hq) ?_
  rintro (er | (_ | _ | _ | u)) s' hq'
  · exact False.elim hq'
  · exact hq'.elim
  · exact hq'.elim
  · exact hq'.elim
  · obtain ⟨v, H', I3, rv, ev, q3⟩ := I2.after hq'
    subst ev
    exact ⟨rv, ⟨V.ref (hp.objs.size + 1), H', I3, rfl, q3⟩⟩
def tMkE (C : Addr) (sp : Sp) (dvs : List V) (t : TA) : TE := fun σ H Q => t σ H fun vs H1 => vs.length ≤ 1000 ∧ ∀ a, H1 a = none → sp (.ref a :: (vs ++ dvs)) (upd H1 a (exo a C none)) (fun v H2 => v = .non ∧ Q (.ref a) H2) E0
theorem pe_mkE {e : Expr} {es : List Expr} {t : TA} (T : EC X.K C fI) (F1 : FnOk X.prog X.w X.K X.mg X.base CX0 k fI fd ps sp) (hr : Room (k + 1) X.A) (hb : Binds X.K fd ps ds) (hd : Vals dvs ds) (hg : Gl X x) (hm : X.mg x = some (.ref C)) (ha : PA X (e :: es) t)
    (hdb : (x == ("__debug__" : Str)) = false := by decide) (he : starEach (e :: es) X.env = (false, eval e X.env) :: starEach es X.env := by rfl) (hpl : (backTo pos (starEach es X.env)).any (·.1) = false := by rfl) :
    PE X (.Call (.Name x p) (e :: es) [] pos) (tMkE C sp dvs t) := by
  constructor
  intro pins s σ H Q I h
  apply wpAny_Call_Name_kw (ld_glob I hg hm ?_ hdb)
  refine PySem.W.callWith_K (h₀ := X.base) I.ok.mod.kin T.t.kC (thn (ha.run pos pins s σ H _ I h) fun us s1 z => ?_) he hpl
  obtain ⟨vs, H1, I1, r1, hz, q1⟩ := z
  exact ⟨I1.kIn, run_mkE T.t T.iC T.tI F1 hr hb hd I1 r1 hz q1⟩
theorem pe_mkE0 (T : EC X.K C fI) (F1 : FnOk X.prog X.w X.K X.mg X.base CX0 k fI fd ps sp) (hr : Room (k + 1) X.A) (hb : Binds X.K fd ps ds) (hd : Vals dvs ds) (hg : Gl X x) (hm : X.mg x = some (.ref C))
    (hdb : (x == ("__debug__" : Str)) = false := by decide) : PE X (.Call (.Name x p) [] [] pos) (tMkE C sp dvs tNil) := by
  constructor
  intro pins s σ H Q I h
  apply wpAny_Call_Name_kw (ld_glob I hg hm ?_ hdb)
  obtain ⟨hz, q1⟩ := h
  exact PySem.W.callWith_K0 I.kIn T.t.kC (run_mkE (us := []) (vs := []) T.t T.iC T.tI F1 hr hb hd I .nil hz q1)
/-- C(k = v) -/
def tMkEK (C : Addr) (sp : Sp) (gV : List V → List V → List V) (t : TA) : TE := fun σ H Q => t σ H fun zs H1 => zs.length = 1 ∧ ∀ a, H1 a = none → sp (gV [.ref a] zs) (upd H1 a (exo a C none)) (fun v H2 => v = .non ∧ Q (.ref a) H2) E0
theorem pe_mkEK {kws : List Keyword} {y : Str} {tk : TA} {gw : List Value → List Value → List Value} {gV : List V → List V → List V} (T : EC X.K C fI) (F1 : FnOk X.prog X.w X.K X.mg X.base CX0 k fI fd ps sp) (hr : Room (k + 1) X.A)
    (hb : KBn X.K fd ps 1 [y] gw gV) (hg : Gl X x) (hm : X.mg x = some (.ref C)) (hkw : PK X kws tk)
    (hall : (backToKw pos (keywordEach kws X.env)).all (·.1.isSome) = true := by rfl) (hks : (backToKw pos (keywordEach kws X.env)).filterMap (·.1) = [y] := by rfl) (hdb : (x == ("__debug__" : Str)) = false := by decide)
    (hpl : ((backTo pos (starEach [] X.env)).any (·.1) || (backToKw pos (keywordEach kws X.env)).any (·.1.isNone)) = false := by rfl) :
    PE X (.Call (.Name x p) [] kws pos) (tMkEK C sp gV tk) := by
  constructor
  intro pins s σ H Q I h
  apply wpAny_Call_Name_kw (ld_glob I hg hm ?_ hdb)
  refine PySem.W.callWith_KW0 (h₀ := X.base) I.ok.mod.kin T.t.kC hall (thn (hkw.run pos pins s σ H _ I h) fun ws s1 z => ?_) hpl
  obtain ⟨zs, H1, I1, rz, l1, q⟩ := z
  refine ⟨I1.kIn, ?_⟩
  rw [hks]
  obtain ⟨z, rfl⟩ : ∃ z, zs = [z] := by
    match zs, l1 with
    | [z], _ => exact ⟨z, rfl⟩
  cases rz with
  | @cons _ u _ _ ru rn =>
    cases rn
    obtain ⟨nm, q0, N, bs, bm, sn, sub, ab, col, dd, k0, k1, k2, k3, k5, hC, hbm⟩ := T.t.cls
    obtain ⟨hn, I2⟩ := new_exo (C := C) I1 []
    have hq := q _ hn
    have r2 : Vals (gV [V.ref (s1.heap.objs.size + 1)] [z]) (gw [Value.ref (s1.heap.objs.size + 1)] [u]) := hb.rel (.cons rfl .nil) (.cons ru .nil)
    have KX := I1.kIn
    obtain ⟨hp, g, dr, tk, os⟩ := s1
    apply wpAny_call
    show codeAny (model X.prog X.w) X.A (.call (.ref C) ⟨[], [(y, u)]⟩) _ _
    refine kw_call hbm (KX _ _ hC) (PySem.W.looks_findIn KX T.iC) (fun self => PySem.W.bind_fn KX self T.tI) ?_
    refine codeAny_mono (F1.run _ X.stack _ _ ⟨[Value.ref (hp.objs.size + 1)], [(y, u)]⟩ (gw [Value.ref (hp.objs.size + 1)] [u]) _ _ E0 (hr.make C [] [(y, u)]) (I2.env0.make C [] [(y, u)]) (hb.to _ [Value.ref (hp.objs.size + 1)] [u] I2.kIn rfl rfl) r2 hq) ?_
    rintro (er | (_ | _ | _ | uu)) s' hq'
    · exact False.elim hq'
    · exact hq'.elim
    · exact hq'.elim
    · exact hq'.elim
    · obtain ⟨v, H', I3, rv, ev, q3⟩ := I2.after hq'
      subst ev
      exact ⟨rv, ⟨V.ref (hp.objs.size + 1), H', I3, rfl, q3⟩⟩
end
end G1

set_option maxHeartbeats 4000000
/-! isinstance, the field, of such an exception; repr of data; powers. -/
namespace G1
open PySem PySem.Spec PyProof.Rows L2
/-! ### isinstance -/
theorem kin_cls {prog : Program} {w : World} {A : Around} {E : Value → Shared → Prop} {s : Shared} {K : PySem.W.Frag} {x D : Addr} {ox : Obj} {od : Option Obj} {Q : Option Value → Shared → Prop}
    (C : ExcC K D) (hf : PySem.W.findObj K D od "__class__" = some (.bind (.builtin "getset_descriptor.__get__") (.builtin "object.__class__")))
    (X : K.In s.heap) (I : PySem.W.InstAt s.heap x ox D od) (h : Q (some (.ref D)) { s with toks := s.toks + 1 }) : wpAny (model prog w) A (getAttr? (.ref x) "__class__") Q E s := by
  obtain ⟨hp, g, d, t, os⟩ := s
  have k0 := I.type (M := model prog w)
  have k1 := PySem.W.looks_findIn (M := model prog w) X C.hg
  have k2 := PySem.W.looks_findIn (M := model prog w) X C.hk
  have k3 := PySem.W.looks_find (M := model prog w) X I hf
  have ks : PySem.W.Looks (model prog w) hp (isInstance (.ref x) (.type "BaseException")) true := k0.andThen (PySem.W.looks_subIn X C.hs)
  have b2 : (Value.builtin "BaseException.__getattribute__" == Value.builtin "object.__getattribute__") = false := by decide +kernel
  have b1 : (onTheHeap (Value.ref D) && Value.builtin "BaseException.__getattribute__" == Value.builtin "object.__getattribute__") = false := by
    rw [b2]
    rfl
  have b0 : (false && onTheHeap (Value.builtin "BaseException.__getattribute__")) = false := rfl
  unfold getAttr? getAttrBy? getAttrBy
  apply wpAny_bind
  apply wpAny_mkText
  apply wpAny_bind
  apply wpAny_attempt
  apply wpAny_holding
  refine wpAny_bind (k0.at ?_)
  refine wpAny_bind (k1.at ?_)
  show wpAny _ _ (if (onTheHeap (Value.ref D) && Value.builtin "BaseException.__getattribute__" == Value.builtin "object.__getattribute__") = true then _ else _) _ _ _
  rw [b1, if_neg Bool.false_ne_true]
  unfold getAttrByItsOwn hookBefore
  apply wpAny_bind
  rw [if_pos (show onTheHeap (Value.ref D) = true from rfl)]
  refine k2.at ?_
  apply wpAny_bind
  apply wpAny_attempt
  apply wpAny_holding
  unfold callGetattribute
  rw [b0, if_neg Bool.false_ne_true]
  unfold boundAndCalled
  rw [PySem.F.excAttr_ValueError.ga.bind (.ref x)]
  apply wpAny_bind
  apply wpAny_pure
  show wpAny _ _ (call (.builtin "BaseException.__getattribute__") [.ref x, .str "__class__" t]) _ _ _
  apply wpAny_call
  apply codeAny_call_builtin PySem.F.excAttr_ValueError.ga.plain PySem.F.entry_bexc_ga
  refine @PySem.W.check_slot (model prog w) _ _ ⟨hp, g, d, t + 1, os⟩ "BaseException.__getattribute__" "BaseException" "__getattribute__" (.ref x) [.str "__class__" t] [] _ (by decide +kernel) (by decide +kernel) ks (PySem.F.args_bexc_ga (.ref x) (.str "__class__" t)) ?_
  unfold Builtin.«object.__getattribute__»
  refine wpAny_bind (wpAny_of_eq (a := ((Value.ref x : Value), [Value.str "__class__" t])) (by first | rfl | (simp only [slotArgs]; rfl)) ?_)
  apply wpAny_bind
  apply wpAny_pure
  refine wpAny_bind (k0.at ?_)
  refine wpAny_bind (k3.at ?_)
  show wpAny _ _ (holding [Value.builtin "object.__class__"] (call (.builtin "getset_descriptor.__get__") [.builtin "object.__class__", .ref x, .ref D]) >>= ret) _ _ _
  apply wpAny_bind
  apply wpAny_holding
  apply wpAny_call
  refine PySem.W.class_get (s := ⟨hp, g, d, t + 1, os⟩) (ox := ox) (od := od) X I C.hm ?_
  apply wpAny_pure
  show wpAny _ _ (handedOut (.ref D)) _ _ _
  rw [PySem.W.handedOut_of (v := .ref D) rfl]
  first
    | exact wpAny_pure (wpAny_pure h)
    | exact wpAny_pure h
    | exact wpAny_pure (wpAny_bind (wpAny_pure (wpAny_pure h)))
theorem find_cls {K : PySem.W.Frag} {D : Addr} (C : ExcC K D) (od : Option Obj) : PySem.W.findObj K D od "__class__" = some (.bind (.builtin "getset_descriptor.__get__") (.builtin "object.__class__")) := by
  obtain ⟨cd, hc, _⟩ := PySem.W.any_some C.hd
  unfold PySem.W.findObj
  rw [hc, Option.bind_some, C.ha, Option.bind_some]
  simp [C.hn, C.ht]
theorem kit_exc {K : PySem.W.Frag} {x D : Addr} {ox : Obj} {od : Option Obj} (C : ExcC K D) : PySem.W.KitX K (.ref x) (.ref D) (fun h => PySem.W.InstAt h x ox D od) := by
  have cls : ∃ c' d' cd' sl', K.lookup D = some ⟨c', d', .cls cd', sl'⟩ := by
    obtain ⟨cd, hc, _⟩ := PySem.W.any_some C.hd
    unfold PySem.W.clsIn at hc
    split at hc
    · rename_i c' d' cd' sl' ho
      exact ⟨c', d', cd', sl', ho⟩
    · cases hc
  obtain ⟨c', d', cd', sl', ho⟩ := cls
  constructor
  · exact fun _ _ _ I => I.type
  · intro M h X _ A' Q' E' s' k q
    unfold isType loadHead
    exact wpAny_bind (wpAny_loadPart (k _ _ (X _ _ ho)) (wpAny_pure q))
  · intro h tp dd its n sl X htp
    cases e : (Value.ref D == Value.ref tp) with
    | false => rfl
    | true =>
      have e2 : D = tp := Value.ref.inj (beq_iff_eq.mp e)
      subst e2
      cases (X _ _ ho).symm.trans htp
  · exact fun X I k => kin_cls C (find_cls C od) X I k
/-- at a stands an exception of the class at C, with or without a dict -/
def AnyErr (H : Hp) (a C : Addr) : Prop := H a = some (exo a C none) ∨ ∃ d fs, H a = some (exo a C (some d)) ∧ H d = some (exd d fs)
theorem ErrAt.any {H : Hp} {a C : Addr} {v : V} (h : ErrAt H a C v) : AnyErr H a C := .inr (by obtain ⟨d, h1, h2⟩ := h; exact ⟨d, _, h1, h2⟩)
section
variable {X : Cx} {pins : List (Addr × Obj)} {σ : L2.St} {H : Hp} {s : Shared}
theorem inst_err {a C : Addr} (I : Inv X pins σ H s) (h : AnyErr H a C) : ∃ ox od, PySem.W.InstAt s.heap a ox C od ∧ (∀ d fs, H a = some (exo a C (some d)) → H d = some (exd d fs) → ∃ o mA, od = some o ∧ s.heap.Ns1 d mA ∧ (∀ f, RelO (fs.lookup f) (mA f)) ∧ s.heap.get? d = some o) := by
  rcases h with h | ⟨d, fs, h1, h2⟩
  · obtain ⟨t1, g⟩ := exo_at I.hok h
    refine ⟨_, none, ⟨g, rfl, rfl, trivial⟩, fun d fs e _ => ?_⟩
    have z : exo a C none = exo a C (some d) := Option.some.inj (h.symm.trans e)
    have z1 : (HO.ext _) = HO.ext _ := z
    have z2 := congrFun (HO.ext.inj z1) s.heap
    have z3 : (∃ t1 : Addr, s.heap.get? a = some ({ cls := .ref C, dict := some d, data := .fields #[.ref t1, .none, .none, .none, .bool false, .none] } : Obj)) := z2.mp ⟨t1, g⟩
    obtain ⟨t2, g2⟩ := z3
    rw [g] at g2
    cases g2
  · obtain ⟨t1, g⟩ := exo_at I.hok h1
    obtain ⟨mA, hns, rel⟩ := exd_at I.hok h2
    obtain ⟨od, ho, hl⟩ := lookIn_ns hns
    refine ⟨_, some od, ⟨g, rfl, rfl, ho⟩, fun d' fs' e e2 => ?_⟩
    have z : exo a C (some d) = exo a C (some d') := Option.some.inj (h1.symm.trans e)
    have z1 : (HO.ext _) = HO.ext _ := z
    have z2 := congrFun (HO.ext.inj z1) s.heap
    have z3 : (∃ t1 : Addr, s.heap.get? a = some ({ cls := .ref C, dict := some d', data := .fields #[.ref t1, .none, .none, .none, .bool false, .none] } : Obj)) := z2.mp ⟨t1, g⟩
    obtain ⟨t2, g2⟩ := z3
    rw [g] at g2
    cases g2
    obtain ⟨mA', hns', rel'⟩ := exd_at I.hok e2
    exact ⟨od, mA', rfl, hns', rel', ho⟩
/-- isinstance(e, c), e such an exception -/
def rIsX (K : PySem.W.Frag) : List V → Hp → VK → Prop := fun xs H Q => ∃ (a C : Addr) (c : V) (u : Value) (b : Bool), xs = [.ref a, c] ∧ AnyErr H a C ∧ ExcC K C ∧ ClsV c u ∧ PySem.W.kitOne K (.ref C) u = some b ∧ Q (.bl b) H
theorem call_isX : CallR X (.builtin "isinstance") (rIsX X.K) := by
  intro pins s σ H xs us Q I r h
  obtain ⟨a, C, c, u, b, rfl, he, hC, hc, hk, q⟩ := h
  obtain ⟨u1, u2, rfl, r1, r2⟩ := vals2 r
  cases (show u1 = Value.ref a from r1)
  have e2 := hc.eq r2
  subst e2
  obtain ⟨ox, od, J, _⟩ := inst_err I he
  exact PySem.W.kia_one (kit_exc hC) I.kIn J hk (fun z => nomatch z) fun tk => ⟨.bl b, H, I.tok tk, rfl, q⟩
/-- both: data and such exceptions -/
theorem call_is2 : CallR X (.builtin "isinstance") (fun xs H Q => rIsX X.K xs H Q ∨ rIsi X.K xs H Q) := by
  intro pins s σ H xs us Q I r h
  rcases h with h | h
  · exact call_isX pins s σ H xs us Q I r h
  · exact call_isi pins s σ H xs us Q I r h
/-! ### e.value -/
def tVal (K : PySem.W.Frag) (te : TE) : TE := fun σ H Q => te σ H fun x H1 => ∃ (a C fI : Addr) (v : V), x = .ref a ∧ ErrAt H1 a C v ∧ EC K C fI ∧ Q v H1
theorem pe_val {e : Expr} {te : TE} {pos : Pos} (he : PE X e te) (hb : attributeBase e "value" X.env (eval e X.env) = eval e X.env := by rfl) : PE X (.Attribute e "value" pos) (tVal X.K te) := by
  constructor
  intro pins s σ H Q I h
  refine attr_of hb (thn (he.run pins s σ H _ I h) fun u s1 hh => ?_)
  obtain ⟨x, H1, I1, rx, a, C, fI, v, ex, ⟨d, ha, hd⟩, T, q⟩ := hh
  subst ex
  cases (show u = Value.ref a from rx)
  obtain ⟨ox, od, J, z⟩ := inst_err I1 (.inr ⟨d, _, ha, hd⟩)
  obtain ⟨o, mA, rfl, hns, rel, ho⟩ := z d _ ha hd
  have l : List.lookup ("value" : Str) [(("value" : Str), v)] = some v := by simp [List.lookup]
  obtain ⟨u2, hu, ru⟩ := RelO.some_of (v := v) (o := mA "value") (by rw [← l]; exact rel "value")
  obtain ⟨od2, ho2, hl⟩ := lookIn_ns hns
  have eo : o = od2 := by
    rw [ho] at ho2
    exact Option.some.inj ho2
  subst eo
  exact PySem.HandSPX.exc_get I1.kIn J T.x.hg T.x.hk T.x.hs (PySem.W.findObj_own T.x.hd T.nv rfl (by rw [hl, hu])) (handed_of ru) ⟨v, H1, I1.tok _, ru, q⟩
end
end G1

set_option maxHeartbeats 4000000
namespace G1
open PySem PySem.Spec PyProof.Rows L2
/-! ### powers of any base -/
def CPowW (i j : Int) : Prop := 0 ≤ j ∧ (Builtin.Int.intBits i : Int) * j ≤ 2 ^ 27
/-! ### repr of data: lists, tuples, texts, small numbers, the empty dict -/
/-- what stands at a value, as data; beside Dp the empty dict -/
inductive Rp (K : PySem.W.Frag) (H : Hp) : V → PyData → Prop
  | dp {v : V} {d : PyData} : Dp K H v d → Rp K H v d
  | dct {a : Addr} : H a = some (.dK []) → Rp K H (.ref a) (.dict [])
section
variable {X : Cx}
theorem op_powW : OpR X (binaryOp .Pow) (rI CPowW fun i j => .int (i ^ j.toNat)) := opI fun _ _ _ _ _ _ _ hc q => pow_int hc.1 hc.2 q
theorem rp_reads {pins : List (Addr × Obj)} {σ : L2.St} {H : Hp} {s : Shared} (I : Inv X pins σ H s) {v : V} {u : Value} {d : PyData} (h : Rp X.K H v d) (r : RelV v u) (hs : d.hasDict = false ∨ d = .dict []) :
    ∃ as, Reads s.heap u d as ∧ (d.hasDict = true → sysModules ∉ as) := by
  cases h with
  | dp h =>
    obtain ⟨as, q⟩ := Dp.reads I d v u h r
    refine ⟨as, q, fun z => ?_⟩
    rcases hs with hs | hs
    · rw [hs] at z
      cases z
    · subst hs
      cases h
  | @dct a e =>
    cases (show u = Value.ref a from r)
    obtain ⟨_, hsys, vs, kv, o, es, ep, h1, h2, h3, _, h5, _⟩ := (show ObjOk X.prog X.w H s.heap a (.dK []) from I.hok a _ e)
    have e0 : vs = [] := by
      cases kv
      rfl
    subst e0
    have e1 : es.toList = [] := by
      cases h5' : es.toList with
      | nil => rfl
      | cons x l =>
        rw [h5'] at h5
        cases h5
    refine ⟨[a], ?_, fun _ z => ?_⟩
    · have R := Reads.dict (h := s.heap) (a := a) (kvs := []) (as := []) (bs := []) h1 h2.1 h3 (by rw [e1]; exact .nil) (by rw [e1]; exact .nil)
      exact R
    · have ea : sysModules = a := List.mem_singleton.mp z
      rw [← ea] at hsys
      simp at hsys
def rRepr (K : PySem.W.Frag) : List V → Hp → VK → Prop := fun xs H Q => ∃ (v : V) (d : PyData), xs = [v] ∧ Rp K H v d ∧ (d.hasDict = false ∨ d = .dict []) ∧ d.showable = true ∧ d.depth ≤ 60 ∧ d.shown.length ≤ sizeLine ∧ Q (.str d.shown) H
theorem call_repr (hgd : Gd X.A) (hu : X.A.units + 64 < cLine) : CallR X (.builtin "repr") (rRepr X.K) := by
  intro pins s σ H xs us Q I r h
  obtain ⟨v, d, rfl, hr, hs, hsh, hdp, hl, q⟩ := h
  obtain ⟨u, rfl, ru⟩ := vals1 r
  have fin : ∀ (h' : Heap) (t : Tok) (tk : Nat), (∀ b o, s.heap.get? b = some o → h'.get? b = some o) → EP X pins σ Q (.str d.shown t) { s with heap := h', toks := tk } :=
    fun h' t tk k => ⟨.str d.shown, H, I.kept k, ⟨t, rfl⟩, q⟩
  have fin0 : ∀ (t : Tok), EP X pins σ Q (.str d.shown t) { s with toks := s.toks + 1 } := fun t => fin s.heap t _ fun _ _ e => e
  obtain ⟨as, hR, hsm⟩ := rp_reads I hr ru hs
  cases hR with
  | none => exact PySem.P.repr_of_none (fin0 _)
  | bool b => exact PySem.P.repr_of_bool (fin0 _)
  | int i t => exact PySem.P.repr_of_int (by simpa [PyData.showable] using hsh) (fin0 _)
  | str x t => exact PySem.P.repr_of_str (fin0 _) hl
  | list h1 h2 h3 h4 => exact repr_of_reads' (.list h1 h2 h3 h4) hsh hsm hgd (by omega) (fun _ _ e => e) (fun h' u tk k => fin h' u tk k) hl
  | tuple h1 h2 h3 h4 => exact repr_of_reads' (.tuple h1 h2 h3 h4) hsh hsm hgd (by omega) (fun _ _ e => e) (fun h' u tk k => fin h' u tk k) hl
  | dict h1 h2 h3 h4 h5 => exact repr_of_reads' (.dict h1 h2 h3 h4 h5) hsh hsm hgd (by omega) (fun _ _ e => e) (fun h' u tk k => fin h' u tk k) hl
end
end G1

set_option maxHeartbeats 4000000
namespace G1
open PySem PySem.Spec PyProof.Rows L2
section
variable {X : Cx}
/-- C(), C an own exception class without an own __init__ -/
def tMkN (C : Addr) : TE := fun _ H Q => ∀ a, H a = none → Q (.ref a) (upd H a (exo a C none))
theorem pe_mkN {C : Addr} {x : Str} {p pos : Pos} (q : PySem.W.excIn X.K C He.veBase "ValueError.__new__" = true) (kC : PySem.W.keepIn X.K (.ref C) = true) (hg : Gl X x) (gC : X.mg x = some (.ref C))
    (hdb : (x == ("__debug__" : Str)) = false := by decide) : PE X (.Call (.Name x p) [] [] pos) (tMkN C) := by
  constructor
  intro pins s σ H Q I h
  apply wpAny_Call_Name_kw (ld_glob I hg gC ?_ hdb)
  refine PySem.W.callWith_K0 I.kIn kC ?_
  obtain ⟨bm, N, nm, qn, bs, hdct, sn, sub, ab, col, dd, k0, k1, k2, k3, k5, mN, hC, hN, hni, T⟩ := exc_obj I.kIn q
  refine wpAny_call_exc_subT F.excBase_ValueError T hC hN hni (fun h' a hm => ?_) (by show 0 ≤ sizeLine; exact Nat.zero_le _)
  have hn : H a = none := I.hok.gone hm.new
  obtain ⟨t, ht, _, _⟩ := hm.there
  exact ⟨.ref a, upd H a (exo a C none), I.laidN hm.keeps hm.new hn (exo_ok ht), rfl, h a hn⟩
end
end G1

set_option maxHeartbeats 4000000
/-! len(set(texts)) of a list of texts, however many. -/
namespace G1
open PySem PySem.Spec PyProof.Rows L2
def memS (xs : List Str) (i : Nat) : Str → Bool := fun k => (xs.take i).any (· == k)
def cntS (xs : List Str) : Nat → Nat
  | 0 => 0
  | i + 1 => if memS xs i (xs.getD i Str.empty) then cntS xs i else cntS xs i + 1
theorem cntS_le (xs : List Str) : ∀ i, cntS xs i ≤ i
  | 0 => Nat.le_refl 0
  | i + 1 => by
    have := cntS_le xs i
    unfold cntS
    split <;> omega
theorem memS_iff {xs : List Str} {i : Nat} {k : Str} : memS xs i k = true ↔ k ∈ xs.take i := by
  unfold memS
  rw [List.any_eq_true]
  constructor
  · rintro ⟨z, hz, e⟩
    rw [← eq_of_beq e]
    exact hz
  · exact fun h => ⟨k, h, beq_self_eq_true _⟩
theorem take_next {xs : List Str} {i : Nat} (h : i < xs.length) : xs.take (i + 1) = xs.take i ++ [xs.getD i Str.empty] := by
  rw [List.take_succ, List.getD_eq_getElem?_getD, List.getElem?_eq_getElem h]
  rfl
theorem cntS_full (xs : List Str) : ∀ i, i ≤ xs.length → (cntS xs i = i ↔ (xs.take i).Nodup)
  | 0, _ => by simp [cntS]
  | i + 1, h => by
    have ih := cntS_full xs i (by omega)
    have le := cntS_le xs i
    rw [take_next (by omega), List.nodup_append]
    unfold cntS
    by_cases m : memS xs i (xs.getD i Str.empty) = true
    · rw [if_pos m]
      refine ⟨fun e => by omega, fun ⟨_, _, d⟩ => absurd rfl (d _ (memS_iff.mp m) _ (List.mem_singleton.mpr rfl))⟩
    · rw [if_neg m]
      refine ⟨fun e => ⟨ih.mp (by omega), List.pairwise_singleton _ _, fun a ha b hb q => ?_⟩, fun ⟨d, _⟩ => by rw [ih.mpr d]⟩
      rw [List.mem_singleton.mp hb] at q
      exact m (memS_iff.mpr (q ▸ ha))
section
variable {prog : Program} {w : World} {A : Around} {R : Result → Shared → Prop} {I : Addr} {fp wr : List Addr} {G : Array GenState → Array GenState → Prop} {n : Nat} {P : Nat → Value → Prop} {St : Nat → Shared → Prop}
theorem set_same {h h' : Heap} {a : Addr} {M : Str → Bool} {n : Nat} (k : ∀ o, h.get? a = some o → h'.get? a = some o) (z : h.SetOf (PySem.strKind prog w) a M n) : h'.SetOf (PySem.strKind prog w) a M n := by
  obtain ⟨o, es, ep, tb, ho, z⟩ := z
  exact ⟨o, es, ep, tb, k o ho, z⟩
theorem strLoop (W : WalksS prog w A.in1 I fp wr G n P St) {a : Addr} (na : a ∉ fp) {xs : List Str} (len : xs.length = n) (hb : n < scanBound) (hv : ∀ i v, P i v → ∃ t, v = .str (xs.getD i Str.empty) t) (m : Nat) :
    ∀ (i : Nat) (s : Shared), i + m = n → St i s → s.heap.SetOf (PySem.strKind prog w) a (memS xs i) (cntS xs i) →
      (∀ s', Moved (a :: wr) G s s' → s'.heap.SetOf (PySem.strKind prog w) a (memS xs n) (cntS xs n) → R (.ok (.ret .none)) s') →
      codeAny (model prog w) A (.builtin "set.update.loop" ⟨[.ref a, .ref I], []⟩) R s := by
  have nw : a ∉ wr := fun z => na (W.sub _ z)
  have up : ∀ b ∈ wr, b ∈ a :: wr := fun _ z => List.mem_cons_of_mem _ z
  induction m with
  | zero =>
    intro i s e hst hS k
    obtain rfl : i = n := by omega
    refine codeAny_builtin PyProof.Rows.F.entry_set_update_loop ?_
    rw [Around.under_plainId PyProof.Rows.F.plain_set_update_loop _]
    exact wpAny_bind (W.done s _ _ hst fun s' hm => wpAny_pure (k s' (hm.mono up) (set_same (fun o => hm.heap a o nw) hS)))
  | succ m ih =>
    intro i s e hst hS k
    have lt : i < n := by omega
    refine codeAny_builtin PyProof.Rows.F.entry_set_update_loop ?_
    rw [Around.under_plainId PyProof.Rows.F.plain_set_update_loop _]
    refine wpAny_bind (W.item i s _ _ lt hst fun v s' hP hst' hm => ?_)
    obtain ⟨t, rfl⟩ := hv i v hP
    have hS1 := set_same (fun o => hm.heap a o nw) hS
    have le := cntS_le xs i
    show wpAny _ A.in1 (holding [Value.str (xs.getD i Str.empty) t] (setAdd a (.str (xs.getD i Str.empty) t)) >>= _) _ _ s'
    refine wpAny_bind (wpAny_holding (by
      unfold setAdd
      refine wpAny_holding (wpAny_bind ((PySem.strKind prog w).pyHash (k := xs.getD i Str.empty) (strKind_is _ _ _ _) ?_))
      refine wpAny_setAddHashed_of (knd := PySem.strKind prog w) (s := { s' with toks := s'.toks + 1 }) (strKind_is _ _ _ _) rfl hS1 (by omega) fun h' sb hS2 => ?_
      have hS3 : h'.SetOf (PySem.strKind prog w) a (memS xs (i + 1)) (cntS xs (i + 1)) := by
        refine SetOf_congr hS2 (fun z => ?_) rfl
        show ((xs.take i).any (· == z) || decide (z = xs.getD i Str.empty)) = (xs.take (i + 1)).any (· == z)
        rw [take_next (by omega), List.any_append]
        congr 1
        by_cases q : z = xs.getD i Str.empty
        · simp [q]
        · have q2 : (xs.getD i Str.empty == z) = false := beq_eq_false_iff_ne.mpr (Ne.symm q)
          simp only [List.any_cons, List.any_nil, q2, Bool.or_false, decide_eq_false q]
      refine wpAny_pure ⟨plainId_quiet PyProof.Rows.F.plain_set_update_loop _, ih (i + 1) _ (by omega) ?_ hS3 fun s2 hm2 hS4 => k s2 (Moved.trans W.gtrans ((hm.mono up).then_heap (Nat.le_succ _) fun b o hb q => ?_) hm2) hS4⟩
      · refine W.frame _ s' _ _ hst' (Nat.le_succ _) fun b hb o q => ?_
        exact (sb.2 b fun z => na (z ▸ hb)).trans q
      · exact (sb.2 b fun z => hb (z ▸ List.mem_cons_self)).trans q))
end
section
variable {prog : Program} {w : World} {A : Around} {E : Value → Shared → Prop} {s : Shared}
/-- what set(l) leaves behind -/
def SetLeft (prog : Program) (w : World) (s : Shared) (xs : List Str) (h' : Heap) : Prop :=
  h'.SetOf (PySem.strKind prog w) s.heap.objs.size (memS xs xs.length) (cntS xs xs.length) ∧ ∀ b o, b < s.heap.objs.size → s.heap.get? b = some o → h'.get? b = some o
abbrev emptySet (led : Bool) : Obj := { cls := .type "set", dict := none, data := .set #[] 0 (.fresh 0 0 led) }
theorem call_setS {l : Addr} {items : Array Value} {xs : List Str} {Q : Value → Shared → Prop} (hh : A.handled = none) (hl : s.heap.IsList l items) (hi : StrsAre items.toList xs) (hb : xs.length < scanBound)
    (k : ∀ (h' : Heap) (tk : Nat), SetLeft prog w s xs h' → Q (.ref s.heap.objs.size) { s with heap := h', toks := tk }) : wpAny (model prog w) A (call (.type "set") [.ref l]) Q E s := by
  have len : xs.length = items.size := by rw [← StrsAre.len_eq hi, Array.length_toList]
  obtain ⟨cT, tT, hmro⟩ := PySem.F.called_set.mro
  have y1 := PySem.F.called_set.made
  have y2 := PySem.F.called_set.sub
  have y3 := PySem.F.called_set.notType
  have y4 := PySem.F.called_set.canCreate
  have y5 := PySem.F.typeCall_set_1 (.ref l)
  refine wpAny_call (codeAny_of_tree (show wpAny _ _ (callAny (.type "set") _) _ _ _ from wpAny_pure ⟨Code.quiet_builtin _ (by decide +kernel), codeAny_builtin PySem.F.entry_type_call ?_⟩))
  rw [Around.under_plain (weight_type_call_type "set" [.ref l] []) rfl]
  repeat (any_goals (first | assumption | wp_step))
  refine codeAny_mono (code_set_new_1 (.ref l) (E := E) (Q₁ := fun obj s₁ => ∃ led : Bool, obj = .ref s.heap.objs.size ∧ s₁ = { s with heap := s.heap.push (emptySet led) }) fun led => ⟨led, rfl, rfl⟩) fun r s₁ hr => ?_
  match r, hr with
  | .error e, hr => exact hr
  | .ok (.ret obj), hr =>
    obtain ⟨led, rfl, rfl⟩ := hr
    have hS : (s.heap.push (emptySet led)).get? s.heap.objs.size = some (emptySet led) := Heap.get?_push_size _ rfl
    have hT : Shared.TypeIs { s with heap := s.heap.push (emptySet led) } (.ref s.heap.objs.size) "set" := ⟨_, hS, rfl⟩
    have i1 := PySem.F.called_set.init.lookup
    have i2 := PySem.F.called_set.init.bind (.ref s.heap.objs.size)
    repeat (any_goals (first | assumption | wp_step))
    refine codeAny_mono (codeAny_call_builtin (R := wants (fun r s₂ => r = .none ∧ ∃ h' tk, s₂ = { s with heap := h', toks := tk } ∧ SetLeft prog w s xs h') E) PySem.F.called_set.init.plain PySem.F.entry_set_init (check_set_init_1 hT ?_)) fun r₂ s₂ hr₂ => ?_
    · obtain ⟨⟨oc, od, dt, osl⟩, ho, hc, nl, hd⟩ := hl
      dsimp only at hc hd
      subst hc hd
      have lt : l < s.heap.objs.size := Heap.lt_size ho
      have ho1 : (s.heap.push (emptySet led)).get? l = some { cls := .type "list", dict := od, data := .seq items nl, slots := osl } := Heap.get?_push_of_some _ ho
      have z1 := PySem.F.sub_list_set
      have z2 := PySem.F.sub_list_frozenset
      have z3 : (Value.type "list" == Value.type "dict") = false := by decide
      have L1 : (s.heap.push (emptySet led)).IsList l items := ⟨_, ho1, rfl, nl, rfl⟩
      unfold Builtin.«set.__init__» noKeywords Builtin.Frozenset.updateFrom
      generalize hPI : pyIter = PI
      wp_walk
      subst hPI
      refine wpAny_pyIter_list L1 (wpAny_bind (wpAny_runValue ?_))
      have ne1 : l ≠ (s.heap.push (emptySet led)).objs.size := by
        rw [Heap.size_push]
        exact Nat.ne_of_lt (Nat.lt_succ_of_lt lt)
      have ne2 : s.heap.objs.size ∉ [(s.heap.push (emptySet led)).objs.size, l] := by
        rw [Heap.size_push]
        simp only [List.mem_cons, List.not_mem_nil, or_false, not_or]
        exact ⟨Nat.ne_of_lt (Nat.lt_succ_self _), Nat.ne_of_gt lt⟩
      refine strLoop ((Walks.list (by simp [hh]) _ l ne1 items).toS) ne2 len (by rw [← len]; exact hb) (fun i v e => SS.strs_at hi i v (by rw [Array.getElem?_toList]; exact e)) items.size 0 _ (by omega) ⟨⟨_, Heap.get?_push_size _ rfl, rfl, rfl⟩, L1.push _⟩ ?_ ?_
      · exact SetOf_congr ((setObjOf_fresh (knd := PySem.strKind prog w) led).setOf (Heap.get?_push_of_some _ hS) (by unfold scanBound; omega)) (fun _ => rfl) rfl
      · intro s' hm hS'
        obtain ⟨h', g', d', tk', os'⟩ := s'
        obtain rfl : g' = s.gens := hm.gens
        obtain rfl : d' = s.drawn := hm.drawn
        obtain rfl : os' = s.os := hm.os
        rw [← len] at hS'
        refine wpAny_pure (wpAny_pure ⟨rfl, h', tk', rfl, hS', fun b o lb e => hm.heap b o ?_ (Heap.get?_push_of_some _ (Heap.get?_push_of_some _ e))⟩)
        simp only [List.mem_cons, List.not_mem_nil, or_false, not_or]
        rw [Heap.size_push]
        exact ⟨Nat.ne_of_lt lb, Nat.ne_of_lt (Nat.lt_succ_of_lt lb)⟩
    · match r₂, hr₂ with
      | .error e, hr₂ => exact hr₂
      | .ok (.ret r), hr₂ =>
        obtain ⟨rfl, h', tk, rfl, left⟩ := hr₂
        repeat (any_goals (first | assumption | wp_step))
        exact k _ _ left
end
end G1

set_option maxHeartbeats 4000000
namespace G1
open PySem PySem.Spec PyProof.Rows L2
section
variable {X : Cx}
def tLenStrs (K : PySem.W.Frag) (ta : TE) : TE := fun σ H Q => ta σ H fun x H1 => ∃ l, ∃ xs : List Str, x = .ref l ∧ SqL K H1 l (xs.map V.str) ∧ xs.length ≤ 1000 ∧ Q (.int (cntS xs xs.length)) H1
theorem pe_lenStrs {a : Expr} {ta : TE} {p p2 q pos : Pos} (hc : X.calm = true) (g1 : Gl X "len") (m1 : X.mg "len" = none) (g2 : Gl X "set") (m2 : X.mg "set" = none) (ha : PE X a ta) (na : starEach [a] X.env = (false, eval a X.env) :: starEach [] X.env := by rfl) :
    PE X (.Call (.Name "len" p) [.Call (.Name "set" p2) [a] [] q] [] pos) (tLenStrs X.K ta) := by
  refine ⟨fun pins s σ H Q I h => Call_ (ld_blt I g1 m1 boot_len (callWith_builtin1 (args_cons (Call_ (ld_blt I g2 m2 boot_set ?_)) rfl) rfl rfl))⟩
  refine callWith_type1 (args_cons (thn (ha.run pins s σ H _ I h) fun v s1 ⟨x, H1, I1, r1, q1⟩ => args_nil ?_) na) na rfl
  obtain ⟨l, xs, rfl, hq, hb, q1⟩ := q1
  cases r1
  obtain ⟨its, r, pl, hz⟩ := I1.list hq
  have le := cntS_le xs xs.length
  refine call_setS (I1.ok.hd hc) pl.isList (xs := xs) (by simpa using strsAre_of r) (by unfold scanBound; omega) fun h' tk left => args_nil ?_
  obtain ⟨⟨o, es, ep, t, ho, hex, hd, _, _, _, hf, hn⟩, keep⟩ := left
  have I2 : Inv X pins σ H1 { s1 with heap := h', toks := tk } := I1.kept fun b o e => keep b o (Heap.lt_size e) e
  exact call_len_set ho hex hd hf (by rw [hn]; omega) ⟨.int (cntS xs xs.length), H1, I2.tok _, ⟨_, by rw [hn]⟩, q1⟩
end
end G1

set_option maxHeartbeats 4000000
/-! sorted(set(list)) of texts and of ints: a set of keys of one kind whose table can be walked. -/
namespace G1
open PySem PySem.Spec PyProof.Rows L2
/-- keys of one kind, as values -/
structure KX (P : Program) (w : World) (κ : Type) [DecidableEq κ] where
  kd : PySem.KeyKind P w κ
  val : κ → Tok → Value
  key : Value → κ
  is_ : ∀ k t, kd.is k (val k t) = true
  key_ : ∀ k t, key (val k t) = k
  sc : ∀ k t, (val k t).scannable = true
def strX (P : Program) (w : World) : KX P w Str := ⟨strKind P w, .str, fun v => match v with | .str k _ => k | _ => Str.empty, fun k t => strKind_is P w k t, fun _ _ => rfl, fun _ _ => rfl⟩
def intX (P : Program) (w : World) : KX P w Int := ⟨intKind P w, .int, fun v => match v with | .int k _ => k | _ => 0, fun k t => intKind_is P w k t, fun _ _ => rfl, fun _ _ => rfl⟩
section
variable {P : Program} {w : World} {κ : Type} [DecidableEq κ] (X : KX P w κ)
def KX.Good (e : Int × Value) : Prop := ∃ k t, e.2 = X.val k t ∧ e.1 = X.kd.hash k
def KX.ky (e : Int × Value) : κ := X.key e.2
/-- the set at a: M its members, at most m of them -/
def SetM (h : Heap) (a : Addr) (M : κ → Bool) (m : Nat) : Prop :=
  ∃ o es ep t, h.get? a = some o ∧ o.ExactSet ∧ o.data = .set es ep t ∧ (∀ e ∈ es.toList, X.Good e) ∧ (es.toList.map X.ky).Nodup ∧ (∀ k, M k = true ↔ k ∈ es.toList.map X.ky) ∧ es.size < scanBound ∧ t.fits es.size = true ∧ es.size ≤ m ∧
    Ris t.place.toList ∧ (w.params.followText "set-order" = true ∨ t.led = true)
end
section
variable {P : Program} {w : World} {κ : Type} [DecidableEq κ] {X : KX P w κ} {h h' : Heap} {a : Addr} {M : κ → Bool} {m : Nat}
theorem SetM.keep (R : SetM X h a M m) (k : ∀ o, h.get? a = some o → h'.get? a = some o) : SetM X h' a M m := by
  obtain ⟨o, es, ep, t, ho, z⟩ := R
  exact ⟨o, es, ep, t, k o ho, z⟩
theorem SetM.congr {M' : κ → Bool} (R : SetM X h a M m) (e : ∀ k, M' k = M k) : SetM X h a M' m := by
  rw [funext e]
  exact R
theorem KX.is_iff (k j : κ) (t : Tok) : X.kd.is j (X.val k t) = true ↔ k = j :=
  ⟨fun z => X.kd.inj _ _ _ (X.is_ k t) z, fun z => z ▸ X.is_ k t⟩
theorem KX.elems {l : List (Int × Value)} (g : ∀ e ∈ l, X.Good e) : ElemsOf X.kd l := fun e he => by
  obtain ⟨k, t, z1, z2⟩ := g e he
  rw [z1]
  exact ⟨⟨k, X.is_ k t, z2⟩, X.sc k t⟩
theorem KX.mem_iff {l : List (Int × Value)} (g : ∀ e ∈ l, X.Good e) (k : κ) : k ∈ l.map X.ky ↔ ∃ e ∈ l, X.kd.is k e.2 = true := by
  have one : ∀ e ∈ l, (X.ky e = k ↔ X.kd.is k e.2 = true) := fun e he => by
    obtain ⟨j, t, z1, _⟩ := g e he
    unfold KX.ky
    rw [z1, X.key_, X.is_iff]
  rw [List.mem_map]
  exact ⟨fun ⟨e, he, q⟩ => ⟨e, he, (one e he).mp q⟩, fun ⟨e, he, q⟩ => ⟨e, he, (one e he).mpr q⟩⟩
end
section
variable {P : Program} {w : World} {A : Around} {E : Value → Shared → Prop} {s : Shared} {κ : Type} [DecidableEq κ] {X : KX P w κ} {a : Addr} {M : κ → Bool} {m : Nat}
theorem put_at {h : Heap} {o : Obj} {es es' : Array (Int × Value)} {ep : Nat} {t t' : SetTable} (ho : h.get? a = some o) (hd : o.data = .set es ep t) : (h.update a (Obj.putSet es' t')).get? a = some { o with data := .set es' (ep + 1) t' } := by
  have z := Heap.get?_update_self (Obj.putSet es' t') ho (by rw [putSet_of es' t' hd]; rfl)
  rwa [putSet_of es' t' hd] at z
/-- the table is stored, and laid anew where it is too full -/
theorem setM_tail {g : Bool → Sem Unit} (hg : ∀ (b : Bool) (s2 : Shared) (Q2 : Unit → Shared → Prop), Q2 () s2 → wpAny (model P w) A (g b) Q2 E s2) {o : Obj} {es : Array (Int × Value)} {ep : Nat} {t : SetTable} (ho : s.heap.get? a = some o) (hx : o.ExactSet)
    (hd : o.data = .set es ep t) {ea : Array (Int × Value)} {tb : SetTable} {N : κ → Bool} (ga : ∀ e ∈ ea.toList, X.Good e) (da : (ea.toList.map X.ky).Nodup) (ma : ∀ k, N k = true ↔ k ∈ ea.toList.map X.ky) (ba : ea.size < scanBound) (fa : tb.fits ea.size = true)
    (ra : Ris tb.place.toList) (la : w.params.followText "set-order" = true ∨ tb.led = true) {dm : Bool} {R : Option Bool → Shared → Prop} (hR : ∀ h2, Heap.SameBut a s.heap h2 → SetM X h2 a N ea.size → R (some true) { s with heap := h2 }) :
    wpAny (model P w) A (do
        storeSet a ea tb
        if (!dm && tb.tooFull) = true then do
            g (relayAll tb ea (SetTable.grown ea.size)).2.2
            storeSet a (relayAll tb ea (SetTable.grown ea.size)).1 (relayAll tb ea (SetTable.grown ea.size)).2.1
            pure (some true)
          else pure (some true)) R E s := by
  have o1 := put_at (es' := ea) (t' := tb) ho hd
  have b1 := Heap.SameBut.update s.heap a (Obj.putSet ea tb)
  refine wpAny_bind (wpAny_storeSet_of ho hd ?_ (fits_of_scanBound ba))
  split
  · have y1 := relayAll_perm tb ea (SetTable.grown ea.size)
    have y2 := relayAll_fits tb ea (SetTable.grown ea.size)
    have y3 := relayAll_ris tb ea (SetTable.grown ea.size)
    have y4 := relayAll_led tb ea (SetTable.grown ea.size)
    generalize relayAll tb ea (SetTable.grown ea.size) = Y at y1 y2 y3 y4 ⊢
    obtain ⟨eb, tc, gv⟩ := Y
    dsimp only at y1 y2 y3 y4 ⊢
    have sz : eb.size = ea.size := by rw [← Array.length_toList, y1.length_eq, Array.length_toList]
    have bb : eb.size < scanBound := sz ▸ ba
    refine wpAny_bind (hg _ _ _ (wpAny_bind (wpAny_storeSet_of o1 rfl ?_ (fits_of_scanBound bb))))
    refine wpAny_pure (hR _ (b1.trans (Heap.SameBut.update _ a _)) ⟨_, eb, _, tc, put_at (es' := eb) (t' := tc) o1 rfl, hx, rfl, fun e he => ga e (y1.mem_iff.mp he), (y1.map X.ky).nodup_iff.mpr da, fun k => (ma k).trans (y1.map X.ky).mem_iff.symm, bb, y2, Nat.le_of_eq sz, y3, ?_⟩)
    exact la.imp id fun z => y4.trans z
  · exact wpAny_pure (hR _ b1 ⟨_, ea, _, tb, o1, hx, rfl, ga, da, ma, ba, fa, Nat.le_refl _, ra, la⟩)
theorem setM_add {k : κ} {tk : Tok} {Q : Bool → Shared → Prop} (R : SetM X s.heap a M m) (room : m + 1 < scanBound)
    (hQ : ∀ h2 b, Heap.SameBut a s.heap h2 → SetM X h2 a (fun j => M j || decide (j = k)) (m + 1) → Q b { s with heap := h2 }) : wpAny (model P w) A (setAddHashed a (X.val k tk) (X.kd.hash k)) Q E s := by
  obtain ⟨o, es, ep, t, ho, hx, hd, g, dd, hm, hb, hf, hn, hr, hl⟩ := R
  have hk := X.is_ k tk
  have sc := X.sc k tk
  have el := KX.elems g
  unfold setAddHashed setAddHashedIn
  refine wpAny_holding (wpAny_bind (wpAny_setState_of ho hd hf ?_))
  dsimp only
  rw [byScan_of sc hb el]
  simp only [↓reduceIte]
  unfold setAddByScan
  refine wpAny_bind (wpAny_bind (wpAny_rule (wpAny_bind (wpAny_setScan_of hk ho hd hf el ?_))))
  cases fi : List.findIdx? (fun e => X.kd.is k e.2) es.toList with
  | some j =>
    dsimp only
    obtain ⟨lj, pj, _⟩ := List.findIdx?_eq_some_iff_getElem.mp fi
    have Mk : M k = true := (hm k).mpr ((KX.mem_iff g k).mpr ⟨_, List.getElem_mem lj, pj⟩)
    refine wpAny_pure (wpAny_pure (hQ s.heap _ (Heap.SameBut.refl a s.heap) ⟨o, es, ep, t, ho, hx, hd, g, dd, fun i => ?_, hb, hf, Nat.le_succ_of_le hn, hr, hl⟩))
    rw [Bool.or_eq_true, decide_eq_true_eq, ← hm i]
    exact ⟨fun z => z.elim id fun e => e ▸ Mk, .inl⟩
  | none =>
    dsimp only
    have nk : k ∉ es.toList.map X.ky := fun z => by
      obtain ⟨e, he, q⟩ := (KX.mem_iff g k).mp z
      have c := List.findIdx?_eq_none_iff.mp fi e he
      rw [q] at c
      cases c
    have gw : ∀ (b : Bool) {s2 : Shared} {Q2 : Unit → Shared → Prop}, Q2 () s2 → wpAny (model P w) A (match b with | true => rule "set.scan.the-table-gave-way" | false => pure ()) Q2 E s2 := fun b s2 Q2 q => by
      cases b
      · exact wpAny_pure q
      · exact wpAny_rule q
    have y1 := layNew_perm t es (X.kd.hash k) (X.val k tk)
    have y2 := layNew_fits t es (X.kd.hash k) (X.val k tk)
    have y3 := layNew_ris t es (X.kd.hash k) (X.val k tk) hr
    have y4 := layNew_led t es (X.kd.hash k) (X.val k tk)
    generalize layNew t es (X.kd.hash k) (X.val k tk) = Y at y1 y2 y3 y4 ⊢
    obtain ⟨ea, tb, dm, gv⟩ := Y
    dsimp only at y1 y2 y3 y4 ⊢
    rw [Array.toList_push] at y1
    have pc : ea.toList.Perm ((X.kd.hash k, X.val k tk) :: es.toList) := y1.trans (List.perm_append_singleton _ _)
    have kk : X.ky (X.kd.hash k, X.val k tk) = k := X.key_ k tk
    have pk : (ea.toList.map X.ky).Perm (k :: es.toList.map X.ky) := by
      have z := pc.map X.ky
      rw [List.map_cons, kk] at z
      exact z
    have ga : ∀ e ∈ ea.toList, X.Good e := fun e he => by
      rcases List.mem_cons.mp (pc.mem_iff.mp he) with z | z
      · exact z ▸ ⟨k, tk, rfl, rfl⟩
      · exact g e z
    have da : (ea.toList.map X.ky).Nodup := pk.nodup_iff.mpr (List.nodup_cons.mpr ⟨nk, dd⟩)
    have ma : ∀ i, (M i || decide (i = k)) = true ↔ i ∈ ea.toList.map X.ky := fun i => by
      rw [Bool.or_eq_true, decide_eq_true_eq, pk.mem_iff, List.mem_cons, hm i]
      exact Or.comm
    have sz : ea.size = es.size + 1 := by rw [← Array.length_toList, pc.length_eq, List.length_cons, Array.length_toList]
    have ba : ea.size < scanBound := by omega
    have la : w.params.followText "set-order" = true ∨ tb.led = true := hl.imp id fun z => y4.trans z
    have fin : ∀ h2, Heap.SameBut a s.heap h2 → SetM X h2 a (fun j => M j || decide (j = k)) ea.size → Q true { s with heap := h2 } := fun h2 sb z => by
      obtain ⟨o2, e2, p2, t2, z1, z2, z3, z4, z5, z6, z7, z8, z9, z10⟩ := z
      exact hQ h2 _ sb ⟨o2, e2, p2, t2, z1, z2, z3, z4, z5, z6, z7, z8, by omega, z10⟩
    have gw2 : ∀ (b : Bool) (s2 : Shared) (Q2 : Unit → Shared → Prop), Q2 () s2 → wpAny (model P w) A (match b with | true => rule "set.scan.the-table-gave-way" | false => pure ()) Q2 E s2 := fun b s2 Q2 q => gw b q
    refine wpAny_bind (gw _ ?_)
    split
    · refine wpAny_bind ?_
      rw [hashByValue_scannable 8 sc]
      refine wpAny_pure (setM_tail ?_ ho hx hd ga da ma ba ?_ ?_ ?_ ?_)
      · intro b s2 Q2 q
        cases b <;> first | exact wpAny_pure q | exact wpAny_rule q
      · first | (split <;> first | exact y2 | exact SetTable.fits_plain_off y2) | exact y2
      · first | (split <;> exact y3) | exact y3
      · first | (split <;> exact la) | exact la
      · intro h2 sb z
        dsimp only
        exact wpAny_pure (fin h2 sb z)
    · refine wpAny_bind (wpAny_pure ?_)
      simp only [↓reduceIte]
      refine setM_tail ?_ ho hx hd ga da ma ba y2 y3 la ?_
      · intro b s2 Q2 q
        cases b <;> first | exact wpAny_pure q | exact wpAny_rule q
      · intro h2 sb z
        dsimp only
        exact wpAny_pure (fin h2 sb z)
end
/-- the first i of these -/
def memX {κ : Type} [DecidableEq κ] (xs : List κ) (i : Nat) : κ → Bool := fun k => decide (k ∈ xs.take i)
section
variable {P : Program} {w : World} {A : Around} {R : Result → Shared → Prop} {I : Addr} {fp wr : List Addr} {G : Array GenState → Array GenState → Prop} {n : Nat} {Pv : Nat → Value → Prop} {St : Nat → Shared → Prop} {κ : Type} [DecidableEq κ] {X : KX P w κ}
theorem loopX (W : WalksS P w A.in1 I fp wr G n Pv St) {a : Addr} (na : a ∉ fp) {xs : List κ} (len : xs.length = n) (hb : n + 1 < scanBound) (hv : ∀ i v, Pv i v → ∃ k t, xs[i]? = some k ∧ v = X.val k t) (m : Nat) :
    ∀ (i : Nat) (s : Shared), i + m = n → St i s → SetM X s.heap a (memX xs i) i → (∀ s2, Moved (a :: wr) G s s2 → SetM X s2.heap a (memX xs n) n → R (.ok (.ret .none)) s2) →
      codeAny (model P w) A (.builtin "set.update.loop" ⟨[.ref a, .ref I], []⟩) R s := by
  have nw : a ∉ wr := fun z => na (W.sub _ z)
  have up : ∀ b ∈ wr, b ∈ a :: wr := fun _ z => List.mem_cons_of_mem _ z
  induction m with
  | zero =>
    intro i s e hst hS k
    obtain rfl : i = n := by omega
    refine codeAny_builtin PyProof.Rows.F.entry_set_update_loop ?_
    rw [Around.under_plainId PyProof.Rows.F.plain_set_update_loop _]
    exact wpAny_bind (W.done s _ _ hst fun s2 hm => wpAny_pure (k s2 (hm.mono up) (hS.keep fun o => hm.heap a o nw)))
  | succ m ih =>
    intro i s e hst hS k
    have lt : i < n := by omega
    refine codeAny_builtin PyProof.Rows.F.entry_set_update_loop ?_
    rw [Around.under_plainId PyProof.Rows.F.plain_set_update_loop _]
    refine wpAny_bind (W.item i s _ _ lt hst fun v s2 hP hst2 hm => ?_)
    obtain ⟨z, t, hz, rfl⟩ := hv i v hP
    have hS1 := hS.keep fun o => hm.heap a o nw
    show wpAny _ A.in1 (holding [X.val z t] (setAdd a (X.val z t)) >>= _) _ _ s2
    refine wpAny_bind (wpAny_holding (by
      unfold setAdd
      refine wpAny_holding (wpAny_bind (X.kd.pyHash (X.is_ z t) ?_))
      refine setM_add (s := { s2 with toks := s2.toks + 1 }) hS1 (by omega) fun h2 b sb hS2 => ?_
      have hS3 : SetM X h2 a (memX xs (i + 1)) (i + 1) := hS2.congr fun y => by
        unfold memX
        rw [List.take_succ, hz, Bool.eq_iff_iff, Bool.or_eq_true, decide_eq_true_iff, decide_eq_true_iff, decide_eq_true_iff, List.mem_append]
        simp
      refine wpAny_pure ⟨plainId_quiet PyProof.Rows.F.plain_set_update_loop _, ih (i + 1) _ (by omega) ?_ hS3 fun s3 hm2 hS4 => k s3 (Moved.trans W.gtrans ((hm.mono up).then_heap (Nat.le_succ _) fun c o hc q => ?_) hm2) hS4⟩
      · exact W.frame _ s2 _ _ hst2 (Nat.le_succ _) fun c hc o q => (sb.2 c fun y => na (y ▸ hc)).trans q
      · exact (sb.2 c fun y => hc (y ▸ List.mem_cons_self)).trans q))
end
section
variable {P : Program} {w : World} {A : Around} {E : Value → Shared → Prop} {s : Shared} {κ : Type} [DecidableEq κ] {X : KX P w κ}
abbrev bareSet (w : World) : Obj := { cls := .type "set", dict := none, data := .set #[] 0 (.fresh 0 0 (!w.params.followText "set-order")) }
theorem bare_new (v : Value) {Q : Value → Shared → Prop} (h : Q (.ref s.heap.objs.size) { s with heap := s.heap.push (bareSet w) }) : codeAny (model P w) A (.call (.builtin "set.__new__") ⟨[.type "set", v], []⟩) (wants Q E) s := by
  refine codeAny_of_tree (show wpAny _ A.in1 (do checkBuiltinCall "set.__new__" ⟨[.type "set", v], []⟩; again (.builtin "set.__new__" ⟨[.type "set", v], []⟩)) _ _ s from ?_)
  refine wpAny_bind (wpAny_of_eq (PySem.F.newCall_set_1 v) (wpAny_pure ⟨plainId_quiet PySem.F.plain_set_new _, codeAny_builtin PySem.F.entry_set_new ?_⟩))
  rw [Around.under_plainId PySem.F.plain_set_new _]
  unfold Builtin.«set.__new__» Builtin.Frozenset.newClass
  have hself := sub_set_self
  obtain ⟨hp, gg, dr, tk, os⟩ := s
  dsimp only
  wp_walk
  refine wpAny_askSetting (wpAny_pure ?_)
  dsimp only
  simp only [newObj]
  exact wpAny_bind (wpAny_alloc (wpAny_pure (wpAny_pure h)))
theorem bare_is {h : Heap} : SetM X (h.push (bareSet w)) h.objs.size (fun _ => false) 0 :=
  ⟨_, #[], 0, _, Heap.get?_push_size _ rfl, ⟨rfl, rfl, rfl⟩, rfl, fun e he => by simp at he, by simp, fun k => by simp, by decide, by rfl, Nat.le_refl _, List.Pairwise.nil, by
    show _ ∨ (!w.params.followText "set-order") = true
    cases w.params.followText "set-order" <;> simp⟩
/-- what set(l) leaves behind -/
def LeftX (X : KX P w κ) (s : Shared) (xs : List κ) (h2 : Heap) : Prop := SetM X h2 s.heap.objs.size (fun k => decide (k ∈ xs)) xs.length ∧ ∀ b o, b < s.heap.objs.size → s.heap.get? b = some o → h2.get? b = some o
theorem call_setX {l : Addr} {items : Array Value} {xs : List κ} {Q : Value → Shared → Prop} (hh : A.handled = none) (hl : s.heap.IsList l items) (len : xs.length = items.size) (hi : ∀ (i : Nat) (v : Value), items[i]? = some v → ∃ k t, xs[i]? = some k ∧ v = X.val k t) (hb : xs.length + 1 < scanBound)
    (k : ∀ (h2 : Heap) (tk : Nat), LeftX X s xs h2 → Q (.ref s.heap.objs.size) { s with heap := h2, toks := tk }) : wpAny (model P w) A (call (.type "set") [.ref l]) Q E s := by
  obtain ⟨cT, tT, hmro⟩ := PySem.F.called_set.mro
  have y1 := PySem.F.called_set.made
  have y2 := PySem.F.called_set.sub
  have y3 := PySem.F.called_set.notType
  have y4 := PySem.F.called_set.canCreate
  have y5 := PySem.F.typeCall_set_1 (.ref l)
  refine wpAny_call (codeAny_of_tree (show wpAny _ _ (callAny (.type "set") _) _ _ _ from wpAny_pure ⟨Code.quiet_builtin _ (by decide +kernel), codeAny_builtin PySem.F.entry_type_call ?_⟩))
  rw [Around.under_plain (weight_type_call_type "set" [.ref l] []) rfl]
  repeat (any_goals (first | assumption | wp_step))
  refine codeAny_mono (bare_new (.ref l) (E := E) (Q := fun obj s1 => obj = .ref s.heap.objs.size ∧ s1 = { s with heap := s.heap.push (bareSet w) }) ⟨rfl, rfl⟩) fun r s1 hr => ?_
  match r, hr with
  | .error e, hr => exact hr
  | .ok (.ret obj), hr =>
    obtain ⟨rfl, rfl⟩ := hr
    have hS : (s.heap.push (bareSet w)).get? s.heap.objs.size = some (bareSet w) := Heap.get?_push_size _ rfl
    have hT : Shared.TypeIs { s with heap := s.heap.push (bareSet w) } (.ref s.heap.objs.size) "set" := ⟨_, hS, rfl⟩
    have i1 := PySem.F.called_set.init.lookup
    have i2 := PySem.F.called_set.init.bind (.ref s.heap.objs.size)
    repeat (any_goals (first | assumption | wp_step))
    refine codeAny_mono (codeAny_call_builtin (R := wants (fun r s2 => r = .none ∧ ∃ h2 tk, s2 = { s with heap := h2, toks := tk } ∧ LeftX X s xs h2) E) PySem.F.called_set.init.plain PySem.F.entry_set_init (check_set_init_1 hT ?_)) fun r2 s2 hr2 => ?_
    · obtain ⟨⟨oc, od, dt, osl⟩, ho, hc, nl, hd⟩ := hl
      dsimp only at hc hd
      subst hc hd
      have lt : l < s.heap.objs.size := Heap.lt_size ho
      have L1 : (s.heap.push (bareSet w)).IsList l items := ⟨_, Heap.get?_push_of_some _ ho, rfl, nl, rfl⟩
      have z1 := PySem.F.sub_list_set
      have z2 := PySem.F.sub_list_frozenset
      have z3 : (Value.type "list" == Value.type "dict") = false := by decide
      have ho1 : (s.heap.push (bareSet w)).get? l = some { cls := .type "list", dict := od, data := .seq items nl, slots := osl } := Heap.get?_push_of_some _ ho
      unfold Builtin.«set.__init__» noKeywords Builtin.Frozenset.updateFrom
      generalize hPI : pyIter = PI
      wp_walk
      subst hPI
      refine wpAny_pyIter_list L1 (wpAny_bind (wpAny_runValue ?_))
      have ne1 : l ≠ (s.heap.push (bareSet w)).objs.size := by
        rw [Heap.size_push]
        exact Nat.ne_of_lt (Nat.lt_succ_of_lt lt)
      have ne2 : s.heap.objs.size ∉ [(s.heap.push (bareSet w)).objs.size, l] := by
        rw [Heap.size_push]
        simp only [List.mem_cons, List.not_mem_nil, or_false, not_or]
        exact ⟨Nat.ne_of_lt (Nat.lt_succ_self _), Nat.ne_of_gt lt⟩
      refine loopX (X := X) ((Walks.list (by simp [hh]) _ l ne1 items).toS) ne2 len (by rw [← len]; exact hb) (fun i v e => hi i v e) items.size 0 _ (by omega) ⟨⟨_, Heap.get?_push_size _ rfl, rfl, rfl⟩, L1.push _⟩ ?_ ?_
      · exact SetM.congr (SetM.keep (bare_is (X := X) (h := s.heap)) fun o e => Heap.get?_push_of_some _ e) fun y => by unfold memX; simp
      · intro s2 hm hS2
        obtain ⟨h2, g2, d2, tk2, os2⟩ := s2
        obtain rfl : g2 = s.gens := hm.gens
        obtain rfl : d2 = s.drawn := hm.drawn
        obtain rfl : os2 = s.os := hm.os
        rw [← len] at hS2
        refine wpAny_pure (wpAny_pure ⟨rfl, h2, tk2, rfl, hS2.congr fun y => by unfold memX; rw [List.take_length], fun b o lb e => hm.heap b o ?_ (Heap.get?_push_of_some _ (Heap.get?_push_of_some _ e))⟩)
        simp only [List.mem_cons, List.not_mem_nil, or_false, not_or]
        rw [Heap.size_push]
        exact ⟨Nat.ne_of_lt lb, Nat.ne_of_lt (Nat.lt_succ_of_lt lb)⟩
    · match r2, hr2 with
      | .error e, hr2 => exact hr2
      | .ok (.ret r), hr2 =>
        obtain ⟨rfl, h2, tk, rfl, left⟩ := hr2
        repeat (any_goals (first | assumption | wp_step))
        exact k _ _ left
/-- sorted of such a set -/
theorem sorted_X {a : Addr} {M : κ → Bool} {m : Nat} {Q : Value → Shared → Prop} {Sd : List Value → List κ → Prop} (R : SetM X s.heap a M m) (hh : A.handled = none)
    (srt : ∀ (s2 : Shared) (l : Addr) (vs : List Value) (ks : List κ) (nn : Nat) (Z : Fin → Shared → Prop), s2.heap.get? l = some (seqObj "list" vs.toArray nn) → vs.length ≤ sizeLine → ks.length = vs.length → (∀ (i : Nat) (v : Value), vs[i]? = some v → ∃ k t, ks[i]? = some k ∧ v = X.val k t) →
      (∀ (out : Array Value) (ks2 : List κ), Sd out.toList ks2 → ks2.Perm ks → Z (.done (.ret .none)) { s2 with heap := sortedHeap s2.heap l vs out }) → wpAny (model P w) (A.in1.under (.builtin "list.sort" ⟨[.ref l], []⟩)) (Builtin.«list.sort» ⟨[.ref l], []⟩) Z E s2)
    (hQ : ∀ s2 p (out : Array Value) (c : Nat) (ks : List κ), (∀ b o, s.heap.get? b = some o → s2.heap.get? b = some o) → s2.gens = s.gens → s2.os = s.os → s.heap.objs.size ≤ p → s2.heap.get? p = some (seqObj "list" out c) → Sd out.toList ks → ks.Nodup →
      (∀ k, k ∈ ks ↔ M k = true) → ks.length ≤ m → Q (.ref p) s2) : wpAny (model P w) A (call (.builtin "sorted") [.ref a]) Q E s := by
  obtain ⟨o, es, ep, t, ho, hx, hd, g, dd, hm, hb, hf, hn, hr, hl⟩ := R
  refine Calls.call_function_entry kind_sorted plain_sorted entry_sorted (args_sorted1 _) ?_
  unfold Builtin.«sorted»
  refine wpAny_bind (m := checkCount "sorted" 1 1 _) (wpAny_pure ?_)
  refine wpAny_bind (collect_set (A := A.in1) hh ⟨o, ho, hx.1, hd⟩ hf hb hr hl fun s2 vs k2 z2 g2 o2 pm => ?_)
  have lv : vs.length = es.size := by rw [pm.length_eq, List.length_map, Array.length_toList]
  have lz : vs.length ≤ sizeLine := by
    rw [lv, sizeLine_eq]
    have : es.size < 4096 := hb
    omega
  have each : ∀ (i : Nat) (v : Value), vs[i]? = some v → ∃ k t, (vs.map X.key)[i]? = some k ∧ v = X.val k t := fun i v e => by
    obtain ⟨x, hx1, q⟩ := List.mem_map.mp (pm.mem_iff.mp (List.mem_of_getElem? e))
    obtain ⟨j, tj, q1, _⟩ := g x hx1
    refine ⟨j, tj, ?_, q.symm.trans q1⟩
    rw [List.getElem?_map, e, ← q, q1]
    show some (X.key (X.val j tj)) = some j
    rw [X.key_]
  have pk : (vs.map X.key).Perm (es.toList.map X.ky) := by
    have q := pm.map X.key
    rw [List.map_map] at q
    exact q
  refine wpAny_bind (wpAny_newList ?_ lz)
  have oL : (s2.heap.push (seqObj "list" vs.toArray 0)).get? s2.heap.objs.size = some (seqObj "list" vs.toArray 0) := Heap.get?_push_size _ rfl
  refine wpAny_bind (wpAny_holding (wpAny_call_entry slot_list_sort ⟨_, oL, rfl⟩ entry_list_sort (srt _ _ vs (vs.map X.key) 0 _ oL lz (by rw [List.length_map]) each fun out ks2 y1 y2 => ⟨_, rfl, ?_⟩) (args_list_sort _)))
  obtain ⟨c, hc⟩ := sortedHeap_at (vs := vs) (out := out) oL
  have pn := y2.trans pk
  refine wpAny_pure ⟨_, rfl, hQ _ s2.heap.objs.size out c ks2 (fun b u e => ?_) g2 o2 z2 hc y1 (pn.nodup_iff.mpr dd) (fun k => by rw [pn.mem_iff, ← hm k]) ?_⟩
  · have lt := Heap.lt_size (k2 b u e)
    show (sortedHeap (s2.heap.push (seqObj "list" vs.toArray 0)) s2.heap.objs.size vs out).get? b = some u
    rw [sortedHeap_old (Nat.ne_of_lt lt) (by rw [size_push']; exact Nat.lt_succ_of_lt lt)]
    exact Heap.get?_push_of_some _ (k2 b u e)
  · rw [pn.length_eq, List.length_map, Array.length_toList]
    exact hn
end
end G1

set_option maxHeartbeats 4000000
namespace G1
open PySem PySem.Spec PyProof.Rows L2
theorem strs_each {P : Program} {w : World} : ∀ {vs : List Value} {ks : List Str}, ks.length = vs.length → (∀ (i : Nat) (v : Value), vs[i]? = some v → ∃ k t, ks[i]? = some k ∧ v = (strX P w).val k t) → StrsAre vs ks
  | [], [], _, _ => .nil
  | v :: vs, k :: ks, l, h => by
    obtain ⟨j, t, e1, e2⟩ := h 0 v rfl
    have e3 : k = j := by simpa using e1
    subst e3
    rw [e2]
    exact .cons k t (strs_each (by simpa using l) fun i v e => by simpa using h (i + 1) v (by simpa using e))
  | [], _ :: _, l, _ => by simp at l
  | _ :: _, [], l, _ => by simp at l
theorem ints_each {P : Program} {w : World} : ∀ {vs : List Value} {ks : List Int}, ks.length = vs.length → (∀ (i : Nat) (v : Value), vs[i]? = some v → ∃ k t, ks[i]? = some k ∧ v = (intX P w).val k t) → IntsAre vs ks
  | [], [], _, _ => .nil
  | v :: vs, k :: ks, l, h => by
    obtain ⟨j, t, e1, e2⟩ := h 0 v rfl
    have e3 : k = j := by simpa using e1
    subst e3
    rw [e2]
    exact .cons k t (ints_each (by simpa using l) fun i v e => by simpa using h (i + 1) v (by simpa using e))
  | [], _ :: _, l, _ => by simp at l
  | _ :: _, [], l, _ => by simp at l
theorem rel_each_str {P : Program} {w : World} : ∀ {xs : List Str} {us : List Value}, Vals (xs.map V.str) us → ∀ (i : Nat) (v : Value), us[i]? = some v → ∃ k t, xs[i]? = some k ∧ v = (strX P w).val k t
  | [], _, .nil, i, v, e => by simp at e
  | x :: xs, u :: us, .cons r t, i, v, e => by
    match i, e with
    | 0, e =>
      obtain ⟨k, q⟩ := r
      cases e
      exact ⟨x, k, rfl, q⟩
    | i + 1, e => exact rel_each_str t i v (by simpa using e)
theorem rel_each_int {P : Program} {w : World} : ∀ {xs : List Int} {us : List Value}, Vals (xs.map V.int) us → ∀ (i : Nat) (v : Value), us[i]? = some v → ∃ k t, xs[i]? = some k ∧ v = (intX P w).val k t
  | [], _, .nil, i, v, e => by simp at e
  | x :: xs, u :: us, .cons r t, i, v, e => by
    match i, e with
    | 0, e =>
      obtain ⟨k, q⟩ := r
      cases e
      exact ⟨x, k, rfl, q⟩
    | i + 1, e => exact rel_each_int t i v (by simpa using e)
section
variable {X : Cx}
/-- sorted(set(xs)) of texts -/
def tSortS (K : PySem.W.Frag) (ta : TE) : TE := fun σ H Q => ta σ H fun x H1 => ∃ l, ∃ xs : List Str, x = .ref l ∧ SqL K H1 l (xs.map V.str) ∧ xs.length ≤ 1000 ∧
  ∀ (ys : List Str) (p : Addr), sortedS ys = true → ys.Nodup → (∀ z, z ∈ ys ↔ z ∈ xs) → ys.length ≤ xs.length → H1 p = none → Q (.ref p) (upd H1 p (.lst (ys.map V.str)))
/-- sorted(set(xs)) of ints -/
def tSortI (K : PySem.W.Frag) (ta : TE) : TE := fun σ H Q => ta σ H fun x H1 => ∃ l, ∃ xs : List Int, x = .ref l ∧ SqL K H1 l (xs.map V.int) ∧ xs.length ≤ 1000 ∧
  ∀ (ys : List Int) (p : Addr), ys.Pairwise (· ≤ ·) → ys.Nodup → (∀ z, z ∈ ys ↔ z ∈ xs) → ys.length ≤ xs.length → H1 p = none → Q (.ref p) (upd H1 p (.lst (ys.map V.int)))
theorem pe_sortS {a : Expr} {ta : TE} {p p2 q pos : Pos} (hc : X.calm = true) (g1 : Gl X "sorted") (m1 : X.mg "sorted" = none) (g2 : Gl X "set") (m2 : X.mg "set" = none) (ha : PE X a ta) (na : starEach [a] X.env = (false, eval a X.env) :: starEach [] X.env := by rfl) :
    PE X (.Call (.Name "sorted" p) [.Call (.Name "set" p2) [a] [] q] [] pos) (tSortS X.K ta) := by
  refine ⟨fun pins s σ H Q I h => Call_ (ld_blt I g1 m1 (show bootBuiltins "sorted" = some (.builtin "sorted") by decide +kernel) (callWith_builtin1 (args_cons (Call_ (ld_blt I g2 m2 boot_set ?_)) rfl) rfl rfl))⟩
  refine callWith_type1 (args_cons (thn (ha.run pins s σ H _ I h) fun v s1 ⟨x, H1, I1, r1, q1⟩ => args_nil ?_) na) na rfl
  obtain ⟨l, xs, rfl, hq, hb, q1⟩ := q1
  cases r1
  obtain ⟨its, r, pl, hz⟩ := I1.list hq
  have len : xs.length = its.toArray.size := by
    have := r.length
    rw [List.length_map] at this
    simpa using this
  refine call_setX (X := strX X.prog X.w) (I1.ok.hd hc) pl.isList (xs := xs) len (fun i v e => rel_each_str r i v (by simpa using e)) (by unfold scanBound; omega) fun h2 tk left => args_nil ?_
  obtain ⟨R, keep⟩ := left
  have I2 : Inv X pins σ H1 { s1 with heap := h2, toks := tk } := I1.kept fun b o e => keep b o (Heap.lt_size e) e
  refine sorted_X (s := { s1 with heap := h2, toks := tk }) (Sd := fun out ks => StrsAre out ks ∧ sortedS ks = true) R (I1.ok.hd hc) (fun s2 l2 vs ks nn Z ho hL hl he z => ?_) fun s2 p2 out c ks k2 g2 o2 hp hg hs hn hm hle => ?_
  · have hS : StrsAre vs ks := strs_each hl he
    refine list_sort_treeKAny strKind_oneLt ho hS.keysOf (fun v1 v2 rest e => keyKind_strs (by rw [← e]; exact hS)) hL fun st hp hs => ?_
    obtain ⟨ss, h1, h2, h3⟩ := sorted_out_str hS hp hs
    exact z _ ss ⟨h1, h3⟩ h2
  · have hn1 : H1 p2 = none := I2.hok.fresh hp
    have hlen : (ks.map V.str).length ≤ sizeLine := by rw [List.length_map, sizeLine_eq]; omega
    have J : Inv X pins σ (upd H1 p2 (.lst (ks.map V.str))) s2 :=
      I2.call' (ch := []) o2 (Un.laid k2 hp hn1) (I2.hok.laid k2 hp ⟨hlen, out.toList, c, vals_of_strs hs.1, by simpa using hg⟩) (by rw [g2]; exact I2.bare) (fun _ z => nomatch z)
    exact ⟨.ref p2, _, J, rfl, q1 ks p2 hs.2 hn (fun z => by rw [hm z, decide_eq_true_iff]) hle hn1⟩
theorem pe_sortI {a : Expr} {ta : TE} {p p2 q pos : Pos} (hc : X.calm = true) (g1 : Gl X "sorted") (m1 : X.mg "sorted" = none) (g2 : Gl X "set") (m2 : X.mg "set" = none) (ha : PE X a ta) (na : starEach [a] X.env = (false, eval a X.env) :: starEach [] X.env := by rfl) :
    PE X (.Call (.Name "sorted" p) [.Call (.Name "set" p2) [a] [] q] [] pos) (tSortI X.K ta) := by
  refine ⟨fun pins s σ H Q I h => Call_ (ld_blt I g1 m1 (show bootBuiltins "sorted" = some (.builtin "sorted") by decide +kernel) (callWith_builtin1 (args_cons (Call_ (ld_blt I g2 m2 boot_set ?_)) rfl) rfl rfl))⟩
  refine callWith_type1 (args_cons (thn (ha.run pins s σ H _ I h) fun v s1 ⟨x, H1, I1, r1, q1⟩ => args_nil ?_) na) na rfl
  obtain ⟨l, xs, rfl, hq, hb, q1⟩ := q1
  cases r1
  obtain ⟨its, r, pl, hz⟩ := I1.list hq
  have len : xs.length = its.toArray.size := by
    have := r.length
    rw [List.length_map] at this
    simpa using this
  refine call_setX (X := intX X.prog X.w) (I1.ok.hd hc) pl.isList (xs := xs) len (fun i v e => rel_each_int r i v (by simpa using e)) (by unfold scanBound; omega) fun h2 tk left => args_nil ?_
  obtain ⟨R, keep⟩ := left
  have I2 : Inv X pins σ H1 { s1 with heap := h2, toks := tk } := I1.kept fun b o e => keep b o (Heap.lt_size e) e
  refine sorted_X (s := { s1 with heap := h2, toks := tk }) (Sd := fun out ks => IntsAre out ks ∧ ks.Pairwise (· ≤ ·)) R (I1.ok.hd hc) (fun s2 l2 vs ks nn Z ho hL hl he z => ?_) fun s2 p2 out c ks k2 g2 o2 hp hg hs hn hm hle => ?_
  · exact list_sort_treeAny ho (ints_each hl he) hL fun out ns h1 h2 h3 => z out ns ⟨h1, h3⟩ h2
  · have hn1 : H1 p2 = none := I2.hok.fresh hp
    have hlen : (ks.map V.int).length ≤ sizeLine := by rw [List.length_map, sizeLine_eq]; omega
    have J : Inv X pins σ (upd H1 p2 (.lst (ks.map V.int))) s2 :=
      I2.call' (ch := []) o2 (Un.laid k2 hp hn1) (I2.hok.laid k2 hp ⟨hlen, out.toList, c, vals_of_ints hs.1, by simpa using hg⟩) (by rw [g2]; exact I2.bare) (fun _ z => nomatch z)
    exact ⟨.ref p2, _, J, rfl, q1 ks p2 hs.2 hn (fun z => by rw [hm z, decide_eq_true_iff]) hle hn1⟩
end
end G1

set_option maxHeartbeats 4000000
/-! list(d.values()), and dict(pairs) whose keys differ. -/
namespace G1
open PySem PySem.Spec PyProof.Rows L2
def tListVals (te : TE) : TE := fun σ H Q => te σ H fun x H1 => ∃ (d : Addr) (kvs : List (Key × V)), x = .ref d ∧ H1 d = some (.dK kvs) ∧ ∀ p, H1 p = none → Q (.ref p) (upd H1 p (.lst (kvs.map (·.2))))
theorem vals_snd : ∀ {kvs : List (Key × V)} {vs : List (Key × Value)}, KV kvs vs → Vals (kvs.map (·.2)) (vs.map (·.2))
  | _, _, .nil => .nil
  | _, _, .cons h t => .cons h.2 (vals_snd t)
section
variable {X : Cx} {e : Expr} {te : TE} {p apos cpos pos : Pos}
theorem pe_listVals (hc : X.calm = true) (he : PE X e te) (hg : Gl X "list") (hm : X.mg "list" = none) (hv : bootBuiltins "list" = some (.type "list")) (hbase : attributeBase e "values" X.env (eval e X.env) = eval e X.env := by rfl) (hline : (apos.endLine == cpos.line) = true := by rfl)
    (hs : starEach [.Call (.Attribute e "values" apos) [] [] cpos] X.env = (false, eval (.Call (.Attribute e "values" apos) [] [] cpos) X.env) :: starEach [] X.env := by rfl) :
    PE X (.Call (.Name "list" p) [.Call (.Attribute e "values" apos) [] [] cpos] [] pos) (tListVals te) := by
  refine ⟨fun pins s σ H Q I hq => ?_⟩
  refine wpAny_Call_Name_kw (ld_blt I hg hm hv ?_)
  refine PyProof.Rows.callWith_type1 ?_ hs rfl
  rw [hs]
  show wpAny _ _ (spliced ((false, eval (.Call (.Attribute e "values" apos) [] [] cpos) X.env) :: backTo pos (starEach [] X.env))) _ _ s
  refine Calls.spliced_cons ?_
  refine wpAny_Call_method (T := "dict") (id := "dict.values") hbase rfl hline F.plainAttrs_dict F.slot_dict_values F.type_dict_values (thn (he.run pins s σ H _ I hq) fun u s1 ⟨x, H1, I1, rx, d, kvs, ex, hd, q⟩ => ?_)
  subst ex
  obtain rfl : u = Value.ref d := rx
  obtain ⟨hz, hs0, vs, kv, hdo⟩ := I1.hok d _ hd
  obtain ⟨ep, hat⟩ := hdo.dictAt
  have lk : kvs.length = vs.length := Paired.length kv
  have I2 : Inv X pins σ H1 { s1 with heap := s1.heap.push { cls := .type "dict_values", data := .fields #[.ref d] } } := I1.kept (t' := s1.toks) fun b ob q => Heap.get?_push_of_some _ q
  refine ⟨hdo.typeIs, hdo.mapOf.noDict, ?_⟩
  show wpAny _ _ (callWith cpos (.builtin "dict.values") [.ref d] [] []) _ X.xe s1
  refine method_meetsIn F.slot_dict_values F.entry_dict_values rfl (PySem.evalArgs_none ⟨rfl, hdo.typeIs, F.args_dict_values_1 _, _, meets_dict_values (mixKind X.prog X.w) d hs0, ⟨vs, hdo⟩, ?_⟩)
  refine Calls.spliced_nil ?_
  refine PySem.W.kdl_call (PySem.W.kdl_values (knd := mixKind X.prog X.w) (kvs := vs) (ep := ep)) (I1.ok.hd hc) ⟨⟨_, Heap.get?_push_size _ rfl, rfl, rfl⟩, hat.push _⟩ (by omega) fun h' tk acc c hk hS hacc => ?_
  have ea : acc.toList = vs.map (·.2) := PySem.W.kdl_vals_eq acc.toList (by rw [Array.length_toList]; exact hacc.1) fun j v e => hacc.2 j v (by rw [← Array.getElem?_toList]; exact e)
  refine ⟨.ref _, upd H1 _ (.lst (kvs.map (·.2))), I2.laid (t' := tk) hk (Nat.le_refl _) (show ObjOk X.prog X.w _ _ _ (.lst (kvs.map (·.2))) from ⟨by rw [List.length_map]; omega, vs.map (·.2), c, vals_snd kv, ?_⟩), rfl, q _ (I2.hok.fresh (Nat.le_refl _))⟩
  rw [← ea, Array.toArray_toList]
  exact hS
end
theorem mergeK_new : ∀ {more acc : List (Key × V)}, ((acc ++ more).map (·.1)).Nodup → mergeK acc more = acc ++ more
  | [], acc, _ => by rw [List.append_nil]; rfl
  | p :: more, acc, h => by
    have e1 : valV acc p.1 = none := by
      cases e : valV acc p.1 with
      | none => rfl
      | some v =>
        have m := valV_in e
        rw [List.map_append, List.map_cons] at h
        exact absurd rfl ((List.nodup_append.mp h).2.2 p.1 m p.1 List.mem_cons_self)
    show mergeK (putK acc p.1 p.2) more = acc ++ p :: more
    rw [putK_new _ e1]
    have e2 : acc ++ [(p.1, p.2)] ++ more = acc ++ p :: more := by rw [List.append_assoc]; rfl
    rw [← e2]
    exact mergeK_new (by rw [e2]; exact h)
/-! ### a dict that leads texts to texts -/
def kvP (ks vs : List Str) : List (Key × V) := (ks.zip vs).map fun p => ((.inr p.1 : Key), V.str p.2)
def ren : List Str → List Str → Str → Str
  | k :: ks, v :: vs, z => if k = z then v else ren ks vs z
  | _, _, z => z
theorem kvP_len {ks vs : List Str} (h : ks.length = vs.length) : (kvP ks vs).length = ks.length := by
  unfold kvP
  rw [List.length_map, List.length_zip]
  omega
theorem kvP_keys : ∀ {ks vs : List Str}, ks.length = vs.length → (kvP ks vs).map (·.1) = ks.map fun k => (.inr k : Key)
  | [], _, _ => rfl
  | _ :: _, [], h => by simp at h
  | k :: ks, v :: vs, h => by
    show (.inr k : Key) :: (kvP ks vs).map (·.1) = _
    rw [kvP_keys (by simpa using h)]
    rfl
theorem kvP_vals : ∀ {ks vs : List Str}, ks.length = vs.length → (kvP ks vs).map (·.2) = vs.map V.str
  | [], [], _ => rfl
  | [], _ :: _, h => by simp at h
  | _ :: _, [], h => by simp at h
  | k :: ks, v :: vs, h => by
    show V.str v :: (kvP ks vs).map (·.2) = _
    rw [kvP_vals (by simpa using h)]
    rfl
theorem nd_inr {ks : List Str} (n : ks.Nodup) : (ks.map fun k => (.inr k : Key)).Nodup := by
  refine List.pairwise_map.mpr (n.imp fun {a b} ne e => ne ?_)
  injection e
theorem kvP_merge {ks vs : List Str} (n : ks.Nodup) (h : ks.length = vs.length) : mergeK [] (kvP ks vs) = kvP ks vs := by
  have q := mergeK_new (more := kvP ks vs) (acc := []) (by rw [List.nil_append, kvP_keys h]; exact nd_inr n)
  rw [q, List.nil_append]
theorem valV_ren : ∀ {ks vs : List Str} {z : Str}, ks.length = vs.length → z ∈ ks → valV (kvP ks vs) (.inr z) = some (V.str (ren ks vs z))
  | [], _, z, _, m => nomatch m
  | _ :: _, [], _, h, _ => by simp at h
  | k :: ks, v :: vs, z, h, m => by
    show valV (((.inr k : Key), V.str v) :: kvP ks vs) (.inr z) = _
    by_cases e : k = z
    · rw [valV_pos (by rw [e])]
      unfold ren
      rw [if_pos e]
    · rw [valV_neg (fun q => e (by injection q))]
      have m2 : z ∈ ks := by
        rcases List.mem_cons.mp m with q | q
        · exact absurd q.symm e
        · exact q
      rw [valV_ren (by simpa using h) m2]
      show _ = some (V.str (if k = z then v else ren ks vs z))
      rw [if_neg e]
theorem ren_mem : ∀ {ks vs : List Str} {z : Str}, ks.length = vs.length → z ∈ ks → ren ks vs z ∈ vs
  | [], _, z, _, m => nomatch m
  | _ :: _, [], _, h, _ => by simp at h
  | k :: ks, v :: vs, z, h, m => by
    show (if k = z then v else ren ks vs z) ∈ v :: vs
    by_cases e : k = z
    · rw [if_pos e]
      exact List.mem_cons_self
    · rw [if_neg e]
      rcases List.mem_cons.mp m with q | q
      · exact absurd q.symm e
      · exact List.mem_cons_of_mem _ (ren_mem (by simpa using h) q)
theorem ren_map : ∀ {ks vs : List Str}, ks.length = vs.length → ks.Nodup → ks.map (ren ks vs) = vs
  | [], [], _, _ => rfl
  | [], _ :: _, h, _ => by simp at h
  | _ :: _, [], h, _ => by simp at h
  | k :: ks, v :: vs, h, n => by
    obtain ⟨n1, n2⟩ := List.nodup_cons.mp n
    show ren (k :: ks) (v :: vs) k :: ks.map (ren (k :: ks) (v :: vs)) = v :: vs
    congr 1
    · show (if k = k then v else ren ks vs k) = v
      rw [if_pos rfl]
    · rw [← ren_map (ks := ks) (vs := vs) (by simpa using h) n2]
      have e : ∀ ws, ws = vs → ks.map (ren (k :: ks) (v :: ws)) = ks.map (ren ks ws) := fun ws _ => List.map_congr_left fun z hz => by
        show (if k = z then v else ren ks ws z) = _
        rw [if_neg (fun q => n1 (by rw [q]; exact hz))]
      rw [ren_map (ks := ks) (vs := vs) (by simpa using h) n2]
      exact (e vs rfl).trans (ren_map (by simpa using h) n2)
theorem ren_ren : ∀ {ks vs : List Str} {z : Str}, ks.length = vs.length → vs.Nodup → z ∈ ks → ren vs ks (ren ks vs z) = z
  | [], _, z, _, _, m => nomatch m
  | _ :: _, [], _, h, _, _ => by simp at h
  | k :: ks, v :: vs, z, h, n, m => by
    obtain ⟨n1, n2⟩ := List.nodup_cons.mp n
    show (if v = (if k = z then v else ren ks vs z) then k else ren vs ks (if k = z then v else ren ks vs z)) = z
    by_cases e : k = z
    · rw [if_pos e, if_pos rfl, e]
    · have m2 : z ∈ ks := by
        rcases List.mem_cons.mp m with q | q
        · exact absurd q.symm e
        · exact q
      rw [if_neg e, if_neg (fun q => n1 (by rw [q]; exact ren_mem (by simpa using h) m2))]
      exact ren_ren (by simpa using h) n2 m2
theorem ren_inj {ks vs : List Str} (h : ks.length = vs.length) (n : vs.Nodup) {y z : Str} (hy : y ∈ ks) (hz : z ∈ ks) (e : ren ks vs y = ren ks vs z) : y = z := by
  rw [← ren_ren h n hy, e, ren_ren h n hz]
theorem ren_perm {ks vs r : List Str} (h : ks.length = vs.length) (n : ks.Nodup) (p : r.Perm ks) : (r.map (ren ks vs)).Perm vs := by
  have q := p.map (ren ks vs)
  rwa [ren_map h n] at q
end G1

set_option maxHeartbeats 4000000
/-! Dicts by names: {x: f x for x in xs}, and the comprehensions over lists and enumerate that make them. -/
namespace G1
open PySem PySem.Spec PyProof.Rows L2
def dN (xs : List Str) (f : Str → V) : List (Key × V) := xs.map fun x => ((.inr x : Key), f x)
theorem dN_len {xs : List Str} {f : Str → V} : (dN xs f).length = xs.length := List.length_map _
theorem dN_val : ∀ {xs : List Str} {f : Str → V} {x : Str}, x ∈ xs → valV (dN xs f) (.inr x) = some (f x)
  | y :: ys, f, x, h => by
    show valV (((.inr y : Key), f y) :: dN ys f) (.inr x) = _
    by_cases e : y = x
    · rw [valV_pos (by rw [e]), e]
    · rw [valV_neg (fun q => e (by injection q))]
      refine dN_val ?_
      rcases List.mem_cons.mp h with q | q
      · exact absurd q.symm e
      · exact q
theorem dN_none : ∀ {xs : List Str} {f : Str → V} {x : Str}, x ∉ xs → valV (dN xs f) (.inr x) = none
  | [], _, _, _ => rfl
  | y :: ys, f, x, h => by
    show valV (((.inr y : Key), f y) :: dN ys f) (.inr x) = _
    rw [valV_neg (fun q => h (by injection q with q; exact q ▸ List.mem_cons_self))]
    exact dN_none fun q => h (List.mem_cons_of_mem _ q)
theorem dN_put {xs : List Str} {f : Str → V} {x : Str} (h : x ∉ xs) : putK (dN xs f) (.inr x) (f x) = dN (xs ++ [x]) f := by
  rw [putK_new _ (dN_none h)]
  unfold dN
  rw [List.map_append]
  rfl
theorem dN_get {H : Hp} {d : Addr} {xs : List Str} {f : Str → V} {x : Str} (e : H d = some (.dK (dN xs f))) (h : x ∈ xs) : DGet H d (.str x) (some (f x)) := by
  have q := DGet.k (k := .inr x) e
  rwa [dN_val h] at q
/-- {.. for name in xs}, each turn one new name -/
theorem dc_names {K : PySem.W.Frag} {a : Addr} {xs : List Str} {f : Str → V} {n : Nat} {tk tv : TE} {vs : List Nat} {σ : L2.St} {H1 : Hp} {D : Addr} {Qd : Hp → Prop} (ha : H1 a = some (.lst (xs.map V.str))) (hn : xs.Nodup) (le : xs.length ≤ 100) (hD : H1 D = none)
    (hw : ∀ v, wipe ((wipe σ vs).set n (some v)) vs = wipe σ vs)
    (hs : ∀ (x : Str) (H : Hp) (Qk : VK), x ∈ xs → Same H1 H → (∀ H', Same H H' → Qk (.str x) H') → tk ((wipe σ vs).set n (some (.str x))) H Qk)
    (hv : ∀ (x : Str) (H : Hp) (Qk : VK), x ∈ xs → Same H1 H → (∀ H', Same H H' → Qk (f x) H') → tv ((wipe σ vs).set n (some (.str x))) H Qk)
    (hd : ∀ H, H D = some (.dK (dN xs f)) → Same H1 H → Qd H) : ∃ W : Nat → Nat → Hp → Prop, (∃ m, W 0 m (upd H1 D (.dK []))) ∧ ∀ i m H, W i m H → ((Itl K a).stop i H ∧ Qd H) ∨ ((Itl K a).go i H ∧ ∃ Nx : Hp → Prop, (∀ H', Nx H' → ∃ m', m' < m ∧ W (i + 1) m' H') ∧ ∀ x H', (Itl K a).yld i H x H' → gName n x (wipe σ vs) H' fun σ2 H2 => wipe σ2 vs = wipe σ vs ∧ tYes σ2 H2 fun b H3 => if b = true then tk σ2 H3 fun y H4 => tv σ2 H4 fun z H5 => ∃ kvs k, y = kV k ∧ H5 D = some (.dK kvs) ∧ kvs.length < sizeLine ∧ Nx (upd H5 D (.dK (putK kvs k z))) else Nx H3) := by
  have I : ∀ {H : Hp}, Same H1 H → SqL K H a (xs.map V.str) := fun s => SqL.of (s _ _ ha)
  refine ⟨fun i m H => m = xs.length - i ∧ i ≤ xs.length ∧ H D = some (.dK (dN (xs.take i) f)) ∧ Same H1 H, ⟨xs.length, rfl, Nat.zero_le _, upd_same, fun b o e => by rw [upd_ne (ne_of_none e hD)]; exact e⟩, ?_⟩
  rintro i m H ⟨rfl, hi, hH, s⟩
  by_cases lt : i < xs.length
  · have ex : xs[i]? = some xs[i] := List.getElem?_eq_getElem lt
    have em : (xs.map V.str)[i]? = some (.str xs[i]) := by rw [List.getElem?_map, ex]; rfl
    have mem := List.mem_of_getElem? ex
    refine .inr ⟨⟨_, _, I s, em⟩, fun H' => H' D = some (.dK (dN (xs.take (i + 1)) f)) ∧ Same H1 H', fun H' p => ⟨xs.length - (i + 1), by omega, rfl, lt, p.1, p.2⟩, fun x H' y => ?_⟩
    obtain ⟨rfl, y⟩ := y
    have ey := y _ (I s)
    rw [em] at ey
    obtain rfl := Option.some.inj ey
    refine ⟨hw _, hs _ H' _ mem s fun H4 s4 => hv _ H4 _ mem (s.trans s4) fun H5 s5 => ?_⟩
    have nx : xs[i] ∉ xs.take i := fun q => by
      obtain ⟨j, hj, e⟩ := List.mem_iff_getElem.mp q
      rw [List.length_take] at hj
      rw [List.getElem_take] at e
      exact List.pairwise_iff_getElem.mp hn j i (by omega) lt (by omega) e
    refine ⟨_, .inr xs[i], rfl, (s4.trans s5) _ _ hH, small1000 (by rw [dN_len, List.length_take]; omega), ?_, fun b o e => ?_⟩
    · rw [upd_same, dN_put nx, List.take_succ, ex]
      rfl
    · rw [upd_ne (ne_of_none e hD)]
      exact (s4.trans s5) _ _ (s _ _ e)
  · have e : i = xs.length := by omega
    subst e
    rw [List.take_length] at hH
    exact .inl ⟨⟨_, I s, by rw [List.length_map]; exact Nat.le_refl _⟩, hd H hH s⟩
end G1

set_option maxHeartbeats 4000000
namespace K24
open PySem PySem.Spec PyProof.Rows L2 G1
def top (i : Nat) : Stmt := PySem.Challenge.pw_cardpanel_k24_whole_trees_of_heats.main.body.getD i (.Pass ⟨0, 0, 0, 0⟩)
abbrev FnP (K : PySem.W.Frag) (x : Str) (st : Stmt) (f : Addr) (fd : FuncData) : Prop := FunD K x x (defArgs st) (defBody st) (defScope st) [] [] f fd
theorem okN {P : Program} {w : World} {K : PySem.W.Frag} {mg : Str → Option Value} {base : Heap} {x qual : Str} {params : Arguments} {body : List Stmt} {scope : Scope} {dvs : List V} {kws : List (Str × V)} {f : Addr} {fd : FuncData}
    {N ps : List Str} {k : Nat} {sp : Sp} (F : FunD K x qual params body scope dvs kws f fd) (S : FnScope N ps scope) (len : ∀ vs H Q E, sp vs H Q E → vs.length = ps.length)
    (hb : ∀ (cdv : Value) (A : Around) (outer : List Env) (s : Shared) (H : Hp) (vs : List V) (Q : VK) (E : XK), Room k (A.deeper (envOfC qual scope s.heap.objs.size f cdv)) → sp vs H Q E →
      ∃ t, PSs (cxOf CX0 P w K mg base N qual scope f cdv A outer s H E).nox body t ∧ t { nx := fun _ H' => Q .non H', rt := Q } (start N vs) H) : FnOk P w K mg base CX0 (k + 1) f fd ps sp :=
  F.ok S len fun cdv A outer s H vs Q E hr h => by
    obtain ⟨t, h1, h2⟩ := hb cdv A outer s H vs Q E hr h
    exact ⟨t, h1.nox, h2⟩
theorem gdN {P : Program} {w : World} {K : PySem.W.Frag} {mg : Str → Option Value} {base : Heap} {x qual : Str} {params : Arguments} {body : List Stmt} {scope : Scope} {dvs : List V} {kws : List (Str × V)} {f : Addr} {fd : FuncData}
    {N ps : List Str} {k : Nat} {sp : Sp} (F : FunD K x qual params body scope dvs kws f fd) (S : FnScope N ps scope) (len : ∀ vs H Q E, sp vs H Q E → vs.length = ps.length)
    (hb : ∀ (cdv : Value) (A : Around) (outer : List Env) (s : Shared) (H : Hp) (vs : List V) (Q : VK) (E : XK), Gd A → Room k (A.deeper (envOfC qual scope s.heap.objs.size f cdv)) → sp vs H Q E →
      ∃ t, PSs (cxOf CX0 P w K mg base N qual scope f cdv A outer s H E).nox body t ∧ t { nx := fun _ H' => Q .non H', rt := Q } (start N vs) H) : FnG P w K mg base (k + 1) f fd ps sp := by
  obtain ⟨oc, od, dV, kV, doc, pm, an, cdv, ct, osl, rfl, lk, hcd, _, _⟩ := F.ex
  refine FnG.body lk hcd S len fun A outer s H vs Q E hg hr h => ?_
  obtain ⟨t, h1, h2⟩ := hb cdv A outer s H vs Q E hg hr h
  exact ⟨t, h1.nox, h2⟩
/-! ### purses -/
def PurseL (xs : List V) (c : Nat) : Prop := ∃ v s t a : Int, xs = [.int v, .int s, .int t, .int a] ∧ 0 ≤ s ∧ s < 2147483648 ∧ 0 ≤ t ∧ t ≤ c ∧ 0 ≤ a ∧ a ≤ 1000
def Purse (H : Hp) (p : Addr) (c : Nat) : Prop := ∃ xs, H p = some (.lst xs) ∧ PurseL xs c
def But (p : Addr) (H H' : Hp) : Prop := ∀ b o, b ≠ p → H b = some o → H' b = some o
theorem PurseL.mono {xs : List V} {c d : Nat} (h : PurseL xs c) (l : c ≤ d) : PurseL xs d := by
  obtain ⟨v, s, t, a, e, h1, h2, h3, h4, h5⟩ := h
  exact ⟨v, s, t, a, e, h1, h2, h3, by omega, h5⟩
theorem Purse.mono {H : Hp} {p : Addr} {c d : Nat} (h : Purse H p c) (l : c ≤ d) : Purse H p d := by
  obtain ⟨xs, e, q⟩ := h
  exact ⟨xs, e, q.mono l⟩
theorem But.refl (p : Addr) (H : Hp) : But p H H := fun _ _ _ e => e
theorem But.trans {p : Addr} {H H1 H2 : Hp} (a : But p H H1) (b : But p H1 H2) : But p H H2 := fun c o n e => b c o n (a c o n e)
theorem But.upd {p : Addr} {H : Hp} {o : HO} : But p H (upd H p o) := fun b u n e => by
  rw [upd_ne n]
  exact e
theorem But.same {p : Addr} {H H' : Hp} (s : Same H H') : But p H H' := fun b o _ e => s b o e
theorem Purse.but {H H' : Hp} {p q : Addr} {c : Nat} (h : Purse H q c) (b : But p H H') (n : q ≠ p) : Purse H' q c := by
  obtain ⟨xs, e, z⟩ := h
  exact ⟨xs, b _ _ n e, z⟩
theorem Purse.same {H H' : Hp} {p : Addr} {c : Nat} (h : Purse H p c) (s : Same H H') : Purse H' p c := by
  obtain ⟨xs, e, z⟩ := h
  exact ⟨xs, s _ _ e, z⟩
/-! ### promises -/
def spMixed : Sp := fun vs H Q _ => ∃ s t a : Int, vs = [.int s, .int t, .int a] ∧ 0 ≤ s ∧ s < 2147483648 ∧ 0 ≤ t ∧ t < 2 ^ 40 ∧ 0 ≤ a ∧ a ≤ 1000 ∧ ∀ r : Int, Q (.int r) H
def spDraw : Sp := fun vs H Q _ => ∃ (p : Addr) (m : Int) (c : Nat), vs = [.ref p, .int m] ∧ 0 < m ∧ m < 1073741824 ∧ Purse H p c ∧ c ≤ 1000000 ∧
  ∀ (r : Int) (H' : Hp), 0 ≤ r → r < m → Purse H' p (c + 3) → But p H H' → Q (.int r) H'
section
variable {P : Program} {w : World} {K : PySem.W.Frag} {mg : Str → Option Value} {base : Heap}
abbrev sMixed : Stmt := top 40
theorem scMixed : FnScope ["_law_seed", "_law_turn", "_law_at", "_law_mixed_here"] ["_law_seed", "_law_turn", "_law_at"] (defScope sMixed) := ⟨rfl, rfl, rfl, by decide +kernel, rfl, by decide +kernel, by decide +kernel⟩
theorem ok_mixed {f : Addr} {fd : FuncData} (F : FnP K "_law_mixed" sMixed f fd) : FnOk P w K mg base CX0 1 f fd ["_law_seed", "_law_turn", "_law_at"] spMixed := by
  refine okN F scMixed (fun vs H Q E h => ?_) (fun cdv A outer s H vs Q E hr h => ?_)
  · obtain ⟨_, _, _, rfl, _⟩ := h
    rfl
  · obtain ⟨sd, t, a, rfl, h1, h2, h3, h4, h5, h6, k⟩ := h
    refine ⟨_, pss_cons (ps_set (i := 3) scMixed.nd rfl (Or.inl rfl) (pe_op op_add (pe_op op_mul (pv 0) pe_int) (pe_op op_mul (pe_op op_mul pe_int (pv 1)) (pv 1))))
      (pss_cons (ps_set (i := 3) scMixed.nd rfl (Or.inl rfl) (pe_op op_mod (pe_op op_add (pe_op op_add (pv 3) (pe_op op_mul pe_int (pv 2))) (pv 1)) pe_int))
      (pss_cons (ps_set (i := 3) scMixed.nd rfl (Or.inl rfl) (pe_op op_mod (pe_op op_add (pe_op op_mul (pv 3) (pv 3)) pe_int) pe_int))
      (pss_one (ps_ret (pe_op op_mod (pe_op op_mul (pv 3) pe_int) pe_int))))), ?_⟩
    refine ⟨_, rfl, _, _, rfl, rfl, .inl ⟨by omega, by omega⟩, _, rfl, _, _, rfl, rfl, .inl ⟨by decide, by decide⟩, _, rfl, _, _, rfl, rfl, .inr ⟨by omega, by omega⟩, _, _, rfl, rfl, ?_⟩
    refine ⟨_, rfl, _, rfl, _, _, rfl, rfl, .inl ⟨by decide, by decide⟩, _, _, rfl, rfl, _, rfl, _, _, rfl, rfl, _, _, rfl, rfl, (by show (0 : Int) < 2147483647; decide), ?_⟩
    generalize hm : (sd * 69069 + 104729 * t * t + 7919 * a + t) % 2147483647 = m
    have m0 : 0 ≤ m := by rw [← hm]; exact Int.emod_nonneg _ (by decide)
    have m1 : m < 2147483647 := by rw [← hm]; exact Int.emod_lt_of_pos _ (by decide)
    refine ⟨_, rfl, _, rfl, _, _, rfl, rfl, .inl ⟨by omega, by omega⟩, _, _, rfl, rfl, _, _, rfl, rfl, (by show (0 : Int) < 2147483629; decide), ?_⟩
    refine ⟨_, rfl, _, _, rfl, rfl, .inr ⟨by decide, by decide⟩, _, _, rfl, rfl, (by show (0 : Int) < 2147483587; decide), ?_⟩
    exact k _
end
end K24

set_option maxHeartbeats 8000000
namespace K24
open PySem PySem.Spec PyProof.Rows L2 G1
structure Lib (K : PySem.W.Frag) (mg : Str → Option Value) : Prop where
  sum : mg "sum" = none
  max : mg "max" = none
  min : mg "min" = none
  len : mg "len" = none
  range : mg "range" = none
section
variable {P : Program} {w : World} {K : PySem.W.Frag} {mg : Str → Option Value} {base : Heap}
abbrev sDraw : Stmt := top 41
theorem scDraw : FnScope ["_law_purse_here", "_law_many", "_law_drawn_here", "_law_found", "_law_piece"] ["_law_purse_here", "_law_many"] (defScope sDraw) := ⟨rfl, rfl, rfl, by decide +kernel, rfl, by decide +kernel, by decide +kernel⟩
theorem ok_draw {f fM : Addr} {fd fdM : FuncData} (F : FnP K "_law_draw" sDraw f fd) (L : Lib K mg) (FM : FnP K "_law_mixed" sMixed fM fdM) (gM : mg "_law_mixed" = some (.ref fM)) :
    FnOk P w K mg base CX0 2 f fd ["_law_purse_here", "_law_many"] spDraw := by
  have GM : FnOk P w K mg base CX0 1 fM fdM ["_law_seed", "_law_turn", "_law_at"] spMixed := ok_mixed FM
  have bM : Binds K fdM ["_law_seed", "_law_turn", "_law_at"] [] := FM.bindsN fun _ _ _ _ _ _ us hl => match us, hl with | [_, _, _], _ => rfl
  refine okN F scDraw (fun vs H Q E h => ?_) (fun cdv A outer s H vs Q E hr h => ?_)
  · obtain ⟨_, _, _, rfl, _⟩ := h
    rfl
  · obtain ⟨p, m, c, rfl, m0, m1, ⟨xs, hp, v, sd, t, a, rfl, h1, h2, h3, h4, h5, h6⟩, hc, k⟩ := h
    refine ⟨_, pss_cons (ps_if (pt_cmpR op_gt (pe_ix ix_list (pv 0) pe_int (fun _ _ => rfl)) pe_int (nomark _))
        (pss_cons (ps_set (i := 2) scDraw.nd rfl (Or.inl rfl) (pe_op op_mod (pe_ix ix_list (pv 0) pe_int (fun _ _ => rfl)) (pv 1)))
        (pss_cons (ps_asg (pe_op op_fdiv (pe_ix ix_list (pv 0) pe_int (fun _ _ => rfl)) (pv 1)) (pg_sub (pv 0) pe_int set_list))
        (pss_one (ps_ret (pv 2))))) pss_nil)
      (pss_cons (ps_set (i := 3) scDraw.nd rfl (Or.inl rfl) pe_int)
      (pss_cons (ps_for PassesOwn.never rfl (pi_range1 rfl L.range (pa_cons (pe_op op_add pe_int (pe_op op_fdiv (pe_bits (pv 1)) pe_int)) pa_nil)) (pg_name (i := 4) scDraw.nd rfl (Or.inl rfl))
        (pss_cons (ps_asg (pe_op op_add (pe_ix ix_list (pv 0) pe_int (fun _ _ => rfl)) pe_int) (pg_sub (pv 0) pe_int set_list))
        (pss_one (ps_set (i := 3) scDraw.nd rfl (Or.inl rfl) (pe_op op_add (pe_op op_mul (pv 3) pe_int)
          (pe_call GM hr rfl gM FM.kp bM .nil pass0 (pa_cons (pe_ix ix_list (pv 0) pe_int (fun _ _ => rfl)) (pa_cons (pe_ix ix_list (pv 0) pe_int (fun _ _ => rfl)) (pa_cons (pe_ix ix_list (pv 0) pe_int (fun _ _ => rfl)) pa_nil)))))))))
      (pss_one (ps_ret (pe_op op_mod (pv 3) (pv 1)))))), ?_⟩
    have at0 : ∀ {x y z u : V}, atI [x, y, z, u] 0 = some x := rfl
    have at1 : ∀ {x y z u : V}, atI [x, y, z, u] 1 = some y := rfl
    have at2 : ∀ {x y z u : V}, atI [x, y, z, u] 2 = some z := rfl
    have at3 : ∀ {x y z u : V}, atI [x, y, z, u] 3 = some u := rfl
    refine ⟨_, rfl, p, _, _, _, rfl, rfl, SqL.of hp, at0, _, _, rfl, rfl, _, rfl, ?_⟩
    refine ite2 (fun _ => ?_) (fun _ => ?_)
    · refine ⟨_, rfl, p, _, _, _, rfl, rfl, SqL.of hp, at0, _, rfl, _, _, rfl, rfl, m0, ?_⟩
      refine ⟨_, rfl, p, _, _, _, rfl, rfl, SqL.of hp, at0, _, rfl, _, _, rfl, rfl, ⟨m0, m1⟩, ?_⟩
      refine ⟨_, rfl, p, _, _, 0, rfl, rfl, hp, rfl, ?_⟩
      refine ⟨_, rfl, ?_⟩
      exact k _ _ (Int.emod_nonneg _ (by omega)) (Int.emod_lt_of_pos _ m0) ⟨_, upd_same, v / m, sd, t, a, rfl, h1, h2, h3, by omega, h5, h6⟩ But.upd
    · have hb : Builtin.Int.intBits m ≤ 64 := intBits_le_64 (by omega) (by omega)
      have e28 : ((Builtin.Int.intBits m : Nat) : Int) / 28 ≤ 2 := by omega
      have n28 : 0 ≤ ((Builtin.Int.intBits m : Nat) : Int) / 28 := by omega
      refine ⟨_, rfl, m, rfl, _, _, rfl, rfl, ⟨by decide, by decide⟩, _, _, rfl, rfl, _, rfl, by omega, by omega, ?_⟩
      generalize hn : (1 + ((Builtin.Int.intBits m : Nat) : Int) / 28).toNat = n
      have n3 : n ≤ 3 := by omega
      refine for_range (lo := 0) (n := n) (fun i σ H' => ∃ (r : Int) (o : Option V), σ = [some (.ref p), some (.int m), none, some (.int r), o] ∧ But p H H' ∧ ∃ t' : Int, H' p = some (.lst [.int v, .int sd, .int t', .int a]) ∧ 0 ≤ t' ∧ t' ≤ (c : Int) + i)
        ⟨0, none, rfl, But.refl _ _, t, hp, h3, by omega⟩ ?_ ?_
      · rintro i σ H' hi ⟨r, o, rfl, hb', t', hp', u1, u2⟩
        refine ⟨_, rfl, p, _, _, _, rfl, rfl, SqL.of hp', at2, _, _, rfl, rfl, _, rfl, p, _, _, 2, rfl, rfl, hp', rfl, ?_⟩
        have hp2 : upd H' p (.lst [.int v, .int sd, .int (t' + 1), .int a]) p = some (.lst [.int v, .int sd, .int (t' + 1), .int a]) := upd_same
        refine ⟨_, rfl, _, _, rfl, rfl, .inr ⟨by decide, by decide⟩, _, rfl, p, _, _, _, rfl, rfl, SqL.of hp2, at1, _, rfl, p, _, _, _, rfl, rfl, SqL.of hp2, at2, _, rfl, p, _, _, _, rfl, rfl, SqL.of hp2, at3, ?_⟩
        refine ⟨sd, t' + 1, a, rfl, h1, h2, by omega, by omega, h5, h6, fun q => ?_⟩
        refine ⟨_, _, rfl, rfl, ?_⟩
        exact ⟨_, _, rfl, hb'.trans But.upd, t' + 1, hp2, by omega, by omega⟩
      · rintro σ H' ⟨r, o, rfl, hb', t', hp', u1, u2⟩
        refine ⟨_, rfl, _, rfl, _, _, rfl, rfl, m0, ?_⟩
        exact k _ _ (Int.emod_nonneg _ (by omega)) (Int.emod_lt_of_pos _ m0) ⟨_, hp', v, sd, t', a, rfl, h1, h2, u1, by omega, h5, h6⟩ hb'
end
end K24

set_option maxHeartbeats 8000000
namespace K24
open PySem PySem.Spec PyProof.Rows L2 G1
def spPurse (K : PySem.W.Frag) : Sp := fun vs H Q _ => ∃ (a : Addr) (i : Int) (ns : List Int), vs = [.ref a, .int i] ∧ SqL K H a (ns.map V.int) ∧ 0 ≤ i ∧ i ≤ 1000 ∧
  ∀ (p : Addr) (H' : Hp), H p = none → Purse H' p 0 → Same H H' → Q (.ref p) H'
theorem cut_ints (ns : List Int) (lo hi : Option Int) : ∃ zs : List Int, cutV (ns.map V.int) lo hi = zs.map V.int := by
  unfold cutV
  rw [← List.map_drop, ← List.map_take]
  exact ⟨_, rfl⟩
section
variable {P : Program} {w : World} {K : PySem.W.Frag} {mg : Str → Option Value} {base : Heap}
abbrev sPurse : Stmt := top 39
theorem scPurse : FnScope ["_law_script", "_law_at", "_law_seed"] ["_law_script", "_law_at"] (defScope sPurse) := ⟨rfl, rfl, rfl, by decide +kernel, rfl, by decide +kernel, by decide +kernel⟩
theorem ok_purse {f : Addr} {fd : FuncData} (F : FnP K "_law_purse" sPurse f fd) (L : Lib K mg) : FnOk P w K mg base CX0 1 f fd ["_law_script", "_law_at"] (spPurse K) := by
  refine okN F scPurse (fun vs H Q E h => ?_) (fun cdv A outer s H vs Q E hr h => ?_)
  · obtain ⟨_, _, _, rfl, _⟩ := h
    rfl
  · obtain ⟨a, i, ns, rfl, hS, i0, i1, k⟩ := h
    refine ⟨_, pss_cons (ps_set (i := 2) scPurse.nd rfl (Or.inl rfl) (pe_callB (cr_sum rfl) (by rfl) L.sum (by decide +kernel) (pa_cons (pe_slice sl_list (pv 0) (po_some (pv 1)) (po_some (pe_op op_add (pv 1) pe_int))) pa_nil)))
      (pss_one (ps_ret (pe_lst (pa_cons (pe_op op_mod (pe_callB (call_max2 rfl) (by rfl) L.max (by decide +kernel) (pa_cons (pe_op op_sub (pv 2) (pe_op op_pow pe_int pe_int)) (pa_cons pe_int pa_nil))) (pe_op op_powW (pe_op op_pow pe_int pe_int) pe_int))
        (pa_cons (pe_op op_mod (pv 2) pe_int) (pa_cons pe_int (pa_cons (pv 1) pa_nil))))))), ?_⟩
    refine ⟨_, rfl, _, rfl, _, rfl, _, rfl, _, _, rfl, rfl, _, rfl, a, _, rfl, hS, fun l nl => ?_⟩
    obtain ⟨zs, ez⟩ := cut_ints ns (some i) (some (i + 1))
    refine ⟨l, zs, rfl, SqL.of (upd_same.trans (congrArg (fun x => some (HO.lst x)) ez)), ?_⟩
    refine ⟨_, rfl, _, _, rfl, rfl, ⟨by decide, by decide, by decide⟩, _, _, rfl, rfl, _, _, rfl, ?_⟩
    refine ⟨_, _, rfl, rfl, ⟨by decide, by decide, by decide⟩, _, _, rfl, rfl, ⟨by decide, by decide +kernel⟩, _, _, rfl, rfl, (by show (0 : Int) < (10 ^ (60 : Int).toNat) ^ (8 : Int).toNat; decide +kernel), ?_⟩
    refine ⟨_, rfl, _, _, rfl, rfl, (by show (0 : Int) < 2147483629; decide), _, rfl, (by show 4 ≤ sizeLine; decide), fun p np => ?_⟩
    have n0 : (upd H l (.lst (cutV (ns.map V.int) (some i) (some (i + 1))))) p = none := np
    have npl : p ≠ l := fun q => by
      rw [q, upd_same] at n0
      cases n0
    have hpn : H p = none := by
      rw [upd_ne npl] at n0
      exact n0
    refine k p _ hpn ⟨_, upd_same, _, zs.sum % 2147483629, 0, i, rfl, Int.emod_nonneg _ (by decide), Int.lt_trans (Int.emod_lt_of_pos _ (by decide)) (by decide), by omega, by omega, i0, i1⟩ fun b o e => ?_
    rw [upd_ne (ne_of_none e hpn), upd_ne (ne_of_none e nl)]
    exact e
end
end K24

set_option maxHeartbeats 8000000
namespace K24
open PySem PySem.Spec PyProof.Rows L2 G1
def Letters (z : Str) : Prop := ∀ c ∈ z.cps.toList, 97 ≤ c ∧ c ≤ 122
/-- a name: one to eight small letters -/
def Nm (z : Str) : Prop := 1 ≤ z.length ∧ z.length ≤ 8 ∧ Letters z
def spWord : Sp := fun vs H Q _ => ∃ (p : Addr) (c : Nat), vs = [.ref p] ∧ Purse H p c ∧ c ≤ 900000 ∧
  ∀ (z : Str) (H' : Hp), Nm z → Purse H' p (c + 27) → But p H H' → Q (.str z) H'
theorem SqL.but {K : PySem.W.Frag} {H H' : Hp} {p l : Addr} {xs : List V} (h : SqL K H l xs) (b : But p H H') (n : l ≠ p) : SqL K H' l xs := by
  rcases h with (h | ⟨o, h⟩) | h
  · exact .inl (.inl (b _ _ n h))
  · exact .inl (.inr ⟨o, b _ _ n h⟩)
  · exact .inr h
theorem at_lt {xs : List V} {r : Int} (h0 : 0 ≤ r) (h1 : r < xs.length) : ∃ v, atI xs r = some v ∧ v ∈ xs := by
  obtain ⟨k, rfl⟩ := Int.eq_ofNat_of_zero_le h0
  have hk : k < xs.length := by omega
  exact ⟨xs[k], atI_nat (List.getElem?_eq_getElem hk), List.getElem_mem hk⟩
end K24

set_option maxHeartbeats 8000000
namespace K24
open PySem PySem.Spec PyProof.Rows L2 G1
/-- the items of a list in some order, a new list -/
def spShuf (K : PySem.W.Frag) : Sp := fun vs H Q _ => ∃ (p l : Addr) (xs : List V) (c : Nat), vs = [.ref p, .ref l] ∧ Purse H p c ∧ c ≤ 900000 ∧ SqL K H l xs ∧ l ≠ p ∧ xs.length ≤ 100 ∧
  ∀ (D : Addr) (ys : List V) (H' : Hp), ys.Perm xs → H' D = some (.lst ys) → H D = none → Purse H' p (c + 3 * xs.length) → But p H H' → Q (.ref D) H'
theorem ins_perm {zs xs : List V} {y : V} {k : Nat} (h : zs.Perm xs) : (zs.take k ++ [y] ++ zs.drop k).Perm (xs ++ [y]) := by
  have e : (zs.take k ++ [y] ++ zs.drop k).Perm ([y] ++ (zs.take k ++ zs.drop k)) := by
    rw [← List.append_assoc]
    exact List.Perm.append_right _ List.perm_append_comm
  rw [List.take_append_drop] at e
  exact (e.trans (List.Perm.append_left [y] h)).trans List.perm_append_comm
theorem sn {H : Hp} {p : Addr} {o : HO} (h : H p = none) : Same H (upd H p o) := fun b u e => by
  rw [upd_ne (ne_of_none e h)]
  exact e
/-- D is new to H -/
theorem but_new {p D : Addr} {H H' : Hp} {o : HO} (B : But p H H') (h : H D = none) : But p H (upd H' D o) := fun b u n e => by
  rw [upd_ne (ne_of_none e h)]
  exact B b u n e
theorem But.get {p b : Addr} {H H' : Hp} {o : HO} (B : But p H H') (n : b ≠ p) (h : H b = some o) : H' b = some o := B b o n h
section
variable {P : Program} {w : World} {K : PySem.W.Frag} {mg : Str → Option Value} {base : Heap}
abbrev sShuf : Stmt := top 44
theorem scShuf : FnScope ["_law_purse_here", "_law_some", "_law_found", "_law_item"] ["_law_purse_here", "_law_some"] (defScope sShuf) := ⟨rfl, rfl, rfl, by decide +kernel, rfl, by decide +kernel, by decide +kernel⟩
theorem ok_shuf {f fD : Addr} {fd fdD : FuncData} (F : FnP K "_law_shuffled" sShuf f fd) (L : Lib K mg) (FD : FnP K "_law_draw" sDraw fD fdD) (gD : mg "_law_draw" = some (.ref fD))
    (GD : FnOk P w K mg base CX0 2 fD fdD ["_law_purse_here", "_law_many"] spDraw) : FnOk P w K mg base CX0 3 f fd ["_law_purse_here", "_law_some"] (spShuf K) := by
  have bD : Binds K fdD ["_law_purse_here", "_law_many"] [] := FD.bindsN fun _ _ _ _ _ _ us hl => match us, hl with | [_, _], _ => rfl
  refine okN F scShuf (fun vs H Q E h => ?_) (fun cdv A outer s H vs Q E hr h => ?_)
  · obtain ⟨_, _, _, _, rfl, _⟩ := h
    rfl
  · obtain ⟨p, l, xs, c, rfl, hp, hc, hl, nlp, hx, k⟩ := h
    refine ⟨_, pss_cons (ps_set (i := 2) scShuf.nd rfl (Or.inl rfl) (pe_lst pa_nil))
      (pss_cons (ps_for PassesOwn.never rfl (pi_list (pv 1)) (pg_name (i := 3) scShuf.nd rfl (Or.inl rfl))
        (pss_one (ps_expr (pe_bm PySem.F.plainAttrs_list PySem.F.slot_list_insert PySem.F.type_list_insert mt_insert (pv 2)
          (pa_cons (pe_call GD hr rfl gD FD.kp bD .nil pass0 (pa_cons (pv 0) (pa_cons (pe_op op_add (pe_callB call_len_seq (by rfl) L.len PySem.boot_len (pa_cons (pv 2) pa_nil)) pe_int) pa_nil))) (pa_cons (pv 3) pa_nil))))))
      (pss_one (ps_ret (pv 2)))), ?_⟩
    obtain ⟨pxs, hpx, hpl⟩ := id hp
    refine ⟨Nat.zero_le _, fun D hD => ⟨_, rfl, l, rfl, ⟨_, SqL.but hl (But.same (sn hD)) nlp⟩, for_list (K := K) (a := l) (xs := xs) (fun i σ H' => ∃ (o : Option V) (zs : List V), σ = [some (.ref p), some (.ref l), some (.ref D), o] ∧ zs.Perm (xs.take i) ∧ H' D = some (.lst zs) ∧ Purse H' p (c + 3 * i) ∧ But p H H')
      ?_ ?_ ?_ ?_⟩⟩
    · exact ⟨none, [], rfl, .refl _, upd_same, hp.same (sn hD), But.same (sn hD)⟩
    · rintro i σ H' _ ⟨o, zs, rfl, _, _, _, hb⟩
      exact SqL.but hl hb nlp
    · rintro i y σ H' hi ⟨o, zs, rfl, hz, hD', hp', hb⟩
      have hi1 : i < xs.length := (List.getElem?_eq_some_iff.mp hi).1
      have lz : zs.length = i := by
        rw [hz.length_eq, List.length_take]
        omega
      have nDp : D ≠ p := Ne.symm (ne_of_none hpx hD)
      refine ⟨_, rfl, .inl ⟨rfl, _, SqL.of hD'⟩, ?_⟩
      refine ⟨_, rfl, _, rfl, D, zs, rfl, .inl (SqL.of hD'), _, _, rfl, rfl, ?_⟩
      refine ⟨p, ((zs.length : Int) + 1), c + 3 * i, rfl, by omega, by omega, hp', by omega, fun r H2 r0 r1 hp2 hb2 => ?_⟩
      have hD2 := hb2 _ _ nDp hD'
      refine ⟨_, rfl, D, zs, r, y, rfl, rfl, hD2, small1000 (by omega), r0, by omega, ?_⟩
      refine ⟨_, _, rfl, (ins_perm hz).trans ?_, upd_same, (hp2.but (But.upd (p := D)) (Ne.symm nDp)).mono (by omega), but_new (hb.trans hb2) hD⟩
      rw [List.take_succ, hi]
      exact .refl _
    · rintro σ H' ⟨o, zs, rfl, hz, hD', hp', hb⟩
      rw [List.take_length] at hz
      exact ⟨_, rfl, k D zs H' hz hD' hD hp' hb⟩
end
end K24

set_option maxHeartbeats 8000000
namespace K24
open PySem PySem.Spec PyProof.Rows L2 G1
/-! ### the order of texts -/
def leS (a b : Str) : Prop := ¬ (b.cps.toList < a.cps.toList)
theorem leS_of {a b : Str} (h : ltCps b.cps.toList a.cps.toList = false) : leS a b := by
  rw [ltCps_eq] at h
  exact of_decide_eq_false h
theorem leS_trans {a b c : Str} (h1 : leS a b) (h2 : leS b c) : leS a c := fun z => by
  have l1 : a.cps.toList ≤ b.cps.toList := h1
  have l2 : b.cps.toList ≤ c.cps.toList := h2
  exact (List.le_trans l1 l2) z
theorem str_ext {a b : Str} (h : a.cps.toList = b.cps.toList) : a = b := by
  obtain ⟨⟨a⟩⟩ := a
  obtain ⟨⟨b⟩⟩ := b
  simp only at h
  rw [h]
theorem leS_anti {a b : Str} (h1 : leS a b) (h2 : leS b a) : a = b := str_ext (List.le_antisymm (show a.cps.toList ≤ b.cps.toList from h1) (show b.cps.toList ≤ a.cps.toList from h2))
theorem rising_pw : ∀ (p : Str) (l : List Str), risingS p l = true → (p :: l).Pairwise leS
  | p, [], _ => List.pairwise_singleton _ _
  | p, x :: r, h => by
    obtain ⟨h1, h2⟩ := He.ba (show (!ltCps x.cps.toList p.cps.toList && risingS x r) = true from h)
    have l1 : leS p x := leS_of (by simpa using h1)
    have ih := rising_pw x r h2
    refine List.pairwise_cons.mpr ⟨fun y hy => ?_, ih⟩
    rcases List.mem_cons.mp hy with rfl | hy
    · exact l1
    · exact leS_trans l1 (List.rel_of_pairwise_cons ih hy)
theorem sorted_pw {l : List Str} (h : sortedS l = true) : l.Pairwise leS := match l, h with
  | [], _ => .nil
  | x :: r, h => rising_pw x r h
theorem pw_eq : ∀ {xs ys : List Str}, xs.Pairwise leS → ys.Pairwise leS → xs.Perm ys → xs = ys
  | [], ys, _, _, p => (List.nil_perm.mp p).symm
  | x :: xs, [], _, _, p => by
    have := p.length_eq
    simp at this
  | x :: xs, y :: ys, h1, h2, p => by
    have e : x = y := by
      rcases List.mem_cons.mp (p.mem_iff.mp (List.mem_cons_self : x ∈ x :: xs)) with q | q
      · exact q
      · rcases List.mem_cons.mp (p.mem_iff.mpr (List.mem_cons_self : y ∈ y :: ys)) with r | r
        · exact r.symm
        · exact leS_anti (List.rel_of_pairwise_cons h1 r) (List.rel_of_pairwise_cons h2 q)
    subst e
    rw [pw_eq (List.pairwise_cons.mp h1).2 (List.pairwise_cons.mp h2).2 p.cons_inv]
/-- sorted lists of the same texts are the same -/
theorem sorted_uniq {xs ys : List Str} (h1 : sortedS xs = true) (h2 : sortedS ys = true) (p : xs.Perm ys) : xs = ys := pw_eq (sorted_pw h1) (sorted_pw h2) p
/-- entries: names, no one twice, in order -/
structure Ents (xs : List Str) : Prop where
  nm : ∀ x ∈ xs, Nm x
  nd : xs.Nodup
  so : sortedS xs = true
  st : ("pie" : Str) ∉ xs ∨ ("tart" : Str) ∉ xs
theorem map_str_inj : ∀ {xs ys : List Str}, xs.map V.str = ys.map V.str → xs = ys
  | [], [], _ => rfl
  | [], _ :: _, h => by cases h
  | _ :: _, [], h => by cases h
  | x :: xs, y :: ys, h => by
    injection h with h1 h2
    injection h1 with h3
    rw [h3, map_str_inj h2]
/-- a permutation of texts is one of texts -/
theorem perm_strs {ys : List V} {xs : List Str} (p : ys.Perm (xs.map V.str)) : ∃ zs : List Str, ys = zs.map V.str ∧ zs.Perm xs := by
  refine ⟨ys.map fun v => match v with | .str s => s | _ => Str.empty, ?_, ?_⟩
  · rw [List.map_map]
    refine (List.map_id' ys).symm.trans (List.map_congr_left fun v hv => ?_)
    obtain ⟨s, _, rfl⟩ := List.mem_map.mp (p.mem_iff.mp hv)
    rfl
  · have q := p.map fun v => match v with | .str s => s | _ => Str.empty
    rw [List.map_map] at q
    exact q.trans (by
      rw [show ((fun v => match v with | V.str s => s | _ => Str.empty) ∘ V.str) = id from rfl, List.map_id])
end K24

set_option maxHeartbeats 8000000
namespace K24
open PySem PySem.Spec PyProof.Rows L2 G1
def spNames : Sp := fun vs H Q _ => ∃ (p : Addr) (m : Int) (c : Nat), vs = [.ref p, .int m] ∧ 1 ≤ m ∧ m ≤ 8 ∧ Purse H p c ∧ c ≤ 100000 ∧
  ∀ (D : Addr) (xs : List Str) (H' : Hp), Ents xs → (xs.length : Int) = m → H' D = some (.lst (xs.map V.str)) → H D = none → Purse H' p (c + 100) → But p H H' → Q (.ref D) H'
def some8 : List Str := ["ale", "bun", "cob", "a", "zz", "egg", "marrows", "jam"]
theorem some8_nd : some8.Nodup := by decide +kernel
theorem some8_nm : ∀ x ∈ some8, Nm x := by
  have h : ∀ x ∈ some8, 1 ≤ x.length ∧ x.length ≤ 8 ∧ ∀ c ∈ x.cps.toList, 97 ≤ c ∧ c ≤ 122 := by decide +kernel
  exact h
theorem inV_str {xs : List Str} {x : Str} : inV (.str x) (xs.map V.str) = decide (x ∈ xs) := by
  unfold inV
  induction xs with
  | nil => simp
  | cons y ys ih =>
    rw [List.map_cons, List.any_cons, ih, show eqV (.str y) (.str x) = (y == x) from rfl]
    by_cases e : y = x
    · simp [e]
    · have e2 : (y == x) = false := beq_eq_false_iff_ne.mpr e
      simp only [e2, Bool.false_or, List.mem_cons, Ne.symm e, false_or]
theorem flat_strs {xs : List Str} : (xs.map V.str).all flatV = true := by
  rw [List.all_map]
  exact List.all_eq_true.mpr fun _ _ => rfl
theorem cut_take {xs : List V} {m : Nat} (h : m ≤ xs.length) : cutV xs none (some (m : Int)) = xs.take m := by
  have e : HT.sIx xs.length xs.length (some (m : Int)) = m := by
    unfold HT.sIx
    simp only [Int.toNat_natCast]
    rw [if_neg (by omega)]
    omega
  unfold cutV
  rw [e]
  rfl
theorem nil_or {z : Str} : (if z ∈ some8 then [] else [V.str z]) = (if z ∈ some8 then ([] : List Str) else [z]).map V.str := by
  by_cases h : z ∈ some8
  · rw [if_pos h, if_pos h]
    rfl
  · rw [if_neg h, if_neg h]
    rfl
/-- the eight and a fresh one -/
def nine (z : Str) : List Str := some8 ++ (if z ∈ some8 then [] else [z])
theorem nine_nd (z : Str) : (nine z).Nodup := by
  unfold nine
  by_cases h : z ∈ some8
  · rw [if_pos h, List.append_nil]
    exact some8_nd
  · rw [if_neg h]
    refine List.nodup_append.mpr ⟨some8_nd, List.pairwise_singleton _ _, fun a ha b hb e => ?_⟩
    rw [List.mem_singleton.mp hb] at e
    exact h (e ▸ ha)
theorem nine_nm {z : Str} (hz : Nm z) : ∀ x ∈ nine z, Nm x := by
  intro x hx
  unfold nine at hx
  rcases List.mem_append.mp hx with h | h
  · exact some8_nm x h
  · by_cases q : z ∈ some8
    · rw [if_pos q] at h
      cases h
    · rw [if_neg q] at h
      rw [List.mem_singleton.mp h]
      exact hz
theorem nine_st (z : Str) : ("pie" : Str) ∉ nine z ∨ ("tart" : Str) ∉ nine z := by
  have a1 : ("pie" : Str) ∉ some8 := by decide +kernel
  have a2 : ("tart" : Str) ∉ some8 := by decide +kernel
  have ne : ("pie" : Str) ≠ "tart" := by decide +kernel
  have one : ∀ y, y ∉ some8 → y ∈ nine z → y = z := fun y n h => by
    unfold nine at h
    rcases List.mem_append.mp h with h | h
    · exact absurd h n
    · by_cases q : z ∈ some8
      · rw [if_pos q] at h
        cases h
      · rw [if_neg q] at h
        exact List.mem_singleton.mp h
  by_cases h : ("pie" : Str) ∈ nine z
  · exact .inr fun h2 => ne ((one _ a1 h).trans (one _ a2 h2).symm)
  · exact .inl h
theorem nine_len (z : Str) : 8 ≤ (nine z).length ∧ (nine z).length ≤ 9 := by
  have e : some8.length = 8 := rfl
  unfold nine
  rw [List.length_append, e]
  by_cases h : z ∈ some8
  · rw [if_pos h]
    exact ⟨by simp, by simp⟩
  · rw [if_neg h]
    exact ⟨by simp, by simp⟩
end K24

set_option maxHeartbeats 8000000
namespace K24
open PySem PySem.Spec PyProof.Rows L2 G1
/-- lists of texts at these places -/
inductive RowsAt (H : Hp) : List Addr → List (List Str) → Prop
  | nil : RowsAt H [] []
  | cons {a : Addr} {r : List Str} {as : List Addr} {rs : List (List Str)} : H a = some (.lst (r.map V.str)) → RowsAt H as rs → RowsAt H (a :: as) (r :: rs)
theorem RowsAt.keep {H H' : Hp} {as : List Addr} {rs : List (List Str)} (h : RowsAt H as rs) (k : ∀ a ∈ as, ∀ o, H a = some o → H' a = some o) : RowsAt H' as rs := by
  induction h with
  | nil => exact .nil
  | cons e _ ih => exact .cons (k _ List.mem_cons_self _ e) (ih fun a ha => k a (List.mem_cons_of_mem _ ha))
theorem RowsAt.same {H H' : Hp} {as : List Addr} {rs : List (List Str)} (h : RowsAt H as rs) (s : Same H H') : RowsAt H' as rs := h.keep fun a _ o e => s a o e
theorem RowsAt.snoc {H : Hp} {a : Addr} {r : List Str} {as : List Addr} {rs : List (List Str)} (h : RowsAt H as rs) (e : H a = some (.lst (r.map V.str))) : RowsAt H (as ++ [a]) (rs ++ [r]) := by
  induction h with
  | nil => exact .cons e .nil
  | cons e2 _ ih => exact .cons e2 ih
theorem RowsAt.len {H : Hp} {as : List Addr} {rs : List (List Str)} (h : RowsAt H as rs) : as.length = rs.length := by
  induction h with
  | nil => rfl
  | cons _ _ ih => rw [List.length_cons, List.length_cons, ih]
theorem RowsAt.strs {H : Hp} {as : List Addr} {rs : List (List Str)} (h : RowsAt H as rs) {a : Addr} (ha : a ∈ as) : ∃ r ∈ rs, H a = some (.lst (r.map V.str)) := by
  induction h with
  | nil => cases ha
  | cons e _ ih =>
    rcases List.mem_cons.mp ha with rfl | ha
    · exact ⟨_, List.mem_cons_self, e⟩
    · obtain ⟨r, hr, e⟩ := ih ha
      exact ⟨r, List.mem_cons_of_mem _ hr, e⟩
/-- a list without whole numbers is no purse -/
theorem ne_purse {H : Hp} {a p : Addr} {xs : List V} {c : Nat} (h : H a = some (.lst xs)) (hx : ∀ v ∈ xs, ∀ i, v ≠ .int i) (hp : Purse H p c) : a ≠ p := by
  rintro rfl
  obtain ⟨_, hpx, v, s, t, b, rfl, _⟩ := hp
  rw [h] at hpx
  injection hpx with e
  injection e with e
  exact hx (.int v) (by rw [e]; exact List.mem_cons_self) v rfl
theorem str_no_int {r : List Str} : ∀ v ∈ r.map V.str, ∀ i, v ≠ .int i := by
  intro v hv i e
  obtain ⟨_, _, rfl⟩ := List.mem_map.mp hv
  cases e
theorem ref_no_int {r : List Addr} : ∀ v ∈ r.map V.ref, ∀ i, v ≠ .int i := by
  intro v hv i e
  obtain ⟨_, _, rfl⟩ := List.mem_map.mp hv
  cases e
theorem RowsAt.but {H H' : Hp} {as : List Addr} {rs : List (List Str)} {p : Addr} {c : Nat} (h : RowsAt H as rs) (b : But p H H') (hp : Purse H p c) : RowsAt H' as rs := h.keep fun a ha o e => by
  obtain ⟨r, _, e2⟩ := h.strs ha
  exact b a o (ne_purse e2 str_no_int hp) e
theorem new_back {p a : Addr} {H H' : Hp} {c : Nat} (b : But p H H') (hp : Purse H' p c) (n : H' a = none) : H a = none := by
  cases e : H a with
  | none => rfl
  | some o =>
    obtain ⟨pxs, hpx, _⟩ := id hp
    have q := b _ _ (Ne.symm (ne_of_none hpx n)) e
    rw [n] at q
    cases q
theorem cut_any {xs : List V} {m : Nat} : cutV xs none (some (m : Int)) = xs.take m := by
  by_cases h : m ≤ xs.length
  · exact cut_take h
  · have e : HT.sIx xs.length xs.length (some (m : Int)) = xs.length := by
      unfold HT.sIx
      simp only [Int.toNat_natCast]
      rw [if_neg (by omega)]
      omega
    unfold cutV
    rw [e, List.take_of_length_le (show xs.length ≤ m by omega)]
    exact List.take_of_length_le (Nat.le_refl _)
/-- the head of one row, then the others in the order of another one -/
theorem mixed_perm {xs bs rr : List Str} (hx : xs.Nodup) (hb : bs.Perm xs) (hr : rr.Perm xs) (m : Nat) : (rr.take m ++ bs.filter (fun z => decide (z ∉ rr.take m))).Perm xs := by
  have nt : (rr.take m).Nodup := List.Nodup.sublist (List.take_sublist _ _) (hr.nodup_iff.mpr hx)
  have nb : (bs.filter (fun z => decide (z ∉ rr.take m))).Nodup := List.Nodup.sublist List.filter_sublist (hb.nodup_iff.mpr hx)
  refine (List.perm_ext_iff_of_nodup (List.nodup_append.mpr ⟨nt, nb, fun a ha b hb2 e => ?_⟩) hx).mpr fun z => ?_
  · subst e
    have := (List.mem_filter.mp hb2).2
    exact of_decide_eq_true this ha
  · rw [List.mem_append, List.mem_filter]
    constructor
    · rintro (h | ⟨h, _⟩)
      · exact hr.mem_iff.mp (List.mem_of_mem_take h)
      · exact hb.mem_iff.mp h
    · intro h
      by_cases q : z ∈ rr.take m
      · exact .inl q
      · exact .inr ⟨hb.mem_iff.mpr h, decide_eq_true q⟩
def spRows (K : PySem.W.Frag) : Sp := fun vs H Q _ => ∃ (p n : Addr) (m : Int) (c : Nat) (xs : List Str), vs = [.ref p, .ref n, .int m] ∧ 1 ≤ m ∧ m ≤ 5 ∧ Purse H p c ∧ c ≤ 200000 ∧ SqL K H n (xs.map V.str) ∧ n ≠ p ∧ xs.Nodup ∧ 1 ≤ xs.length ∧ xs.length ≤ 6 ∧
  ∀ (D : Addr) (as : List Addr) (rs : List (List Str)) (H' : Hp), H' D = some (.lst (as.map V.ref)) → H D = none → RowsAt H' as rs → (∀ a ∈ as, H a = none ∧ a ≠ D) → (rs.length : Int) = m → (∀ r ∈ rs, r.Perm xs) → Purse H' p (c + 200) → But p H H' → Q (.ref D) H'
end K24

set_option maxHeartbeats 8000000
namespace K24
open PySem PySem.Spec PyProof.Rows L2 G1
/-- a comprehension over a text, sign by sign -/
theorem lc_str {x : Str} {g : TG} {tt : TT} {te : TE} {vs : List Nat} {σ : L2.St} {H1 : Hp} {D : Addr} {Qd : Hp → Prop} (Pv : Nat → Hp → Prop) (h0 : Pv 0 (upd H1 D (.lst [])))
    (hs : ∀ i c H, x.cps[i]? = some c → Pv i H → g (.str ⟨#[c]⟩) (wipe σ vs) H fun σ2 H2 => wipe σ2 vs = wipe σ vs ∧ tt σ2 H2 fun b H3 =>
      if b = true then te σ2 H3 fun y H4 => ∃ acc, H4 D = some (.lst acc) ∧ acc.length < sizeLine ∧ Pv (i + 1) (upd H4 D (.lst (acc ++ [y]))) else Pv (i + 1) H3) (hd : ∀ H, Pv x.cps.size H → Qd H) :
    ∃ W : Nat → Nat → Hp → Prop, (∃ m, W 0 m (upd H1 D (.lst []))) ∧ ∀ i m H, W i m H →
      ((Its x).stop i H ∧ Qd H) ∨ ((Its x).go i H ∧ ∃ Nx : Hp → Prop, (∀ H', Nx H' → ∃ m', m' < m ∧ W (i + 1) m' H') ∧ ∀ y H', (Its x).yld i H y H' → g y (wipe σ vs) H' fun σ2 H2 => wipe σ2 vs = wipe σ vs ∧ tt σ2 H2 fun b H3 =>
        if b = true then te σ2 H3 fun y H4 => ∃ acc, H4 D = some (.lst acc) ∧ acc.length < sizeLine ∧ Nx (upd H4 D (.lst (acc ++ [y]))) else Nx H3) := by
  refine ⟨fun i m H => m = x.cps.size - i ∧ i ≤ x.cps.size ∧ Pv i H, ⟨x.cps.size, rfl, Nat.zero_le _, h0⟩, ?_⟩
  rintro i m H ⟨rfl, hi, p⟩
  by_cases lt : i < x.cps.size
  · refine .inr ⟨lt, Pv (i + 1), fun H' p' => ⟨x.cps.size - (i + 1), by omega, rfl, lt, p'⟩, fun y H' z => ?_⟩
    obtain ⟨rfl, c, hc, rfl⟩ := z
    exact hs i c H' hc p
  · refine .inl ⟨Nat.le_of_not_lt lt, hd H ?_⟩
    have e : i = x.cps.size := by omega
    rw [← e]
    exact p
def isLetter (c : Nat) : Bool := decide (97 ≤ c) && decide (c ≤ 122)
def isNm (z : Str) : Bool := decide (1 ≤ z.length) && (decide (z.length ≤ 8) && z.cps.toList.all isLetter)
theorem isNm_iff {z : Str} : isNm z = true ↔ Nm z := by
  unfold isNm Nm Letters
  rw [Bool.and_eq_true, Bool.and_eq_true, decide_eq_true_iff, decide_eq_true_iff, List.all_eq_true]
  unfold isLetter
  simp only [Bool.and_eq_true, decide_eq_true_iff]
/-- what is known of a value where it is asked whether it is a name -/
inductive Nmb (K : PySem.W.Frag) (H : Hp) : V → Bool → Prop
  | str {z : Str} : z.length ≤ 1000 → Nmb K H (.str z) (isNm z)
  | not {v : V} {T : String} : TyX K H v (.type T) → kitB T "str" = some false → Nmb K H v false
def spIsName (K : PySem.W.Frag) : Sp := fun vs H Q _ => ∃ (v : V) (b : Bool), vs = [v] ∧ Nmb K H v b ∧ ∀ H', Same H H' → Q (.bl b) H'
theorem sign_le {c : Nat} : (!decide ((⟨#[c]⟩ : Str).cps.toList < ("a" : Str).cps.toList)) = decide (97 ≤ c) := by
  have e : ((⟨#[c]⟩ : Str).cps.toList < ("a" : Str).cps.toList) ↔ c < 97 := by
    show ([c] : List Nat) < [97] ↔ _
    rw [List.cons_lt_cons_iff]
    simp
  by_cases h : c < 97
  · rw [decide_eq_true (e.mpr h), decide_eq_false (by omega)]
    rfl
  · rw [decide_eq_false (fun q => h (e.mp q)), decide_eq_true (by omega)]
    rfl
theorem sign_ge {c : Nat} : (!decide (("z" : Str).cps.toList < (⟨#[c]⟩ : Str).cps.toList)) = decide (c ≤ 122) := by
  have e : (("z" : Str).cps.toList < (⟨#[c]⟩ : Str).cps.toList) ↔ 122 < c := by
    show ([122] : List Nat) < [c] ↔ _
    rw [List.cons_lt_cons_iff]
    simp
  by_cases h : 122 < c
  · rw [decide_eq_true (e.mpr h), decide_eq_false (by omega)]
    rfl
  · rw [decide_eq_false (fun q => h (e.mp q)), decide_eq_true (by omega)]
    rfl
structure LibP (mg : Str → Option Value) : Prop where
  all : mg "all" = none
  isi : mg "isinstance" = none
  str : mg "str" = none
  list : mg "list" = none
  set : mg "set" = none
  sorted : mg "sorted" = none
  long : ∃ t, mg "LONGEST_NAME" = some (.int 8 t)
section
variable {P : Program} {w : World} {K : PySem.W.Frag} {mg : Str → Option Value} {base : Heap}
abbrev sIsName : Stmt := top 11
theorem scIsName : FnScope ["value", "sign"] ["value"] (defScope sIsName) := ⟨rfl, rfl, rfl, by decide +kernel, rfl, by decide +kernel, by decide +kernel⟩
theorem ok_isName {f : Addr} {fd : FuncData} (F : FnP K "is_name" sIsName f fd) (L : Lib K mg) (LP : LibP mg) : FnOk P w K mg base CX0 1 f fd ["value"] (spIsName K) := by
  obtain ⟨tL, hL⟩ := LP.long
  refine okN F scIsName (fun vs H Q E h => ?_) (fun cdv A outer s H vs Q E hr h => ?_)
  · obtain ⟨_, _, rfl, _⟩ := h
    rfl
  · obtain ⟨v, b, rfl, hv, k⟩ := h
    refine ⟨_, pss_cons (ps_if (pt_not (pt_val (pe_callB call_isi (by rfl) LP.isi (by decide +kernel) (pa_cons (pv 0) (pa_cons (pe_bltn (v := .ty "str") (by rfl) LP.str (by decide +kernel) rfl) pa_nil))))) (pss_one (ps_ret pe_bl)) pss_nil)
      (pss_one (ps_ret (pe_and (pe_chain op_le op_le pe_int (pe_callB call_len_str (by rfl) L.len PySem.boot_len (pa_cons (pv 0) pa_nil)) (pe_glob (v := .int 8) (by rfl) hL ⟨_, rfl⟩))
        (pe_one (pe_callB (cr_all rfl) (by rfl) LP.all (by decide +kernel) (pa_cons
          (pe_lc (own := [("sign", 1)]) (g := gName 1) (tt := tYes) (te := tChain (fun x y H Q => ∃ i j, x = .str i ∧ y = .str j ∧ Q (.bl (!decide (j.cps.toList < i.cps.toList))) H) (fun x y H Q => ∃ i j, x = .str i ∧ y = .str j ∧ Q (.bl (!decide (j.cps.toList < i.cps.toList))) H) (tC (.str "a")) (tVar 1) (tC (.str "z"))) rfl scIsName.nd (pi_str (pv 0))
            (blkOk_by (N := ["value", "sign"]) (sc := defScope sIsName) (by decide +kernel)) (fun _ _ _ _ _ => pg_name (i := 1) scIsName.nd rfl (Or.inl rfl)) (fun _ _ _ _ _ => pts_nil)
            (fun _ _ _ _ _ => pe_chain op_le_str op_le_str pe_str (pv 1) pe_str)) pa_nil)))))), ?_⟩
    cases hv with
    | @not _ T ty n =>
      refine ⟨_, rfl, v, .ty "str", .type T, .type "str", false, rfl, .ty _, ty, kit_ty n, false, rfl, iteT ?_⟩
      exact k H (Same.refl H)
    | @str z hz =>
      refine ⟨_, rfl, .str z, .ty "str", .type "str", .type "str", true, rfl, .ty _, ?_, kit_ty (by decide +kernel), true, rfl, iteF ?_⟩
      · exact .base (.str z)
      refine ⟨_, rfl, z, rfl, Nat.le_of_lt (small1000 hz), _, _, rfl, rfl, _, rfl, ?_⟩
      refine ite2 (fun h1 => ?_) (fun h1 => ?_)
      · refine ⟨_, _, rfl, rfl, _, rfl, ite2 (fun h2 => ?_) (fun h2 => ?_)⟩
        · refine ⟨_, rfl, z, rfl, fun D hD => lc_str (x := z) (fun i H' => H' D = some (.lst ((z.cps.toList.take i).map fun c => V.bl (isLetter c))) ∧ Same H H') ⟨upd_same, sn hD⟩ ?_ ?_⟩
          · rintro i c H' hc ⟨q1, q2⟩
            have add : ∀ b : Bool, b = isLetter c → ∃ acc, H' D = some (HO.lst acc) ∧ acc.length < sizeLine ∧ (fun (i : Nat) (H' : Hp) => H' D = some (.lst ((z.cps.toList.take i).map fun c => V.bl (isLetter c))) ∧ Same H H') (i + 1) (upd H' D (.lst (acc ++ [V.bl b]))) := fun b hb => by
              refine ⟨_, q1, ?_, ?_, fun b o e => ?_⟩
              · refine small1000 ?_
                rw [List.length_map]
                have := List.length_take_le' i z.cps.toList
                have e2 : z.cps.toList.length = z.length := by simp [Str.length]
                omega
              · have hc2 : z.cps.toList[i]? = some c := by rw [Array.getElem?_toList]; exact hc
                rw [upd_same, List.take_succ, hc2, List.map_append, hb]
                rfl
              · rw [upd_ne (ne_of_none e hD)]
                exact q2 _ _ e
            refine ⟨rfl, _, rfl, _, _, rfl, rfl, _, rfl, ite2 (fun l1 => ?_) (fun l1 => ?_)⟩
            · rw [sign_le] at l1
              refine ⟨_, _, rfl, rfl, ?_⟩
              rw [sign_ge]
              exact add _ (by unfold isLetter; rw [l1, Bool.true_and])
            · rw [sign_le] at l1
              exact add _ (by unfold isLetter; rw [Bool.eq_false_iff.mpr l1, Bool.false_and])
          · rintro H' ⟨q1, q2⟩
            refine ⟨D, z.cps.toList.map isLetter, rfl, SqL.of ?_, ?_⟩
            · rw [q1, List.take_of_length_le (by simp), List.map_map]
              rfl
            · rw [List.all_map]
              have e : isNm z = z.cps.toList.all (id ∘ isLetter) := by
                unfold isNm
                rw [decide_eq_true (show 1 ≤ z.length by have q := of_decide_eq_true h1; omega), decide_eq_true (show z.length ≤ 8 by have q := of_decide_eq_true h2; omega), Bool.true_and, Bool.true_and]
                rfl
              rw [← e]
              exact k H' q2
        · have e : isNm z = false := by
            unfold isNm
            rw [decide_eq_false (show ¬ z.length ≤ 8 by have q := of_decide_eq_false (Bool.eq_false_iff.mpr h2); omega), Bool.false_and, Bool.and_false]
          rw [e] at k
          exact k H (Same.refl H)
      · have e : isNm z = false := by
          unfold isNm
          rw [decide_eq_false (show ¬ 1 ≤ z.length by have q := of_decide_eq_false (Bool.eq_false_iff.mpr h1); omega), Bool.false_and]
        rw [e] at k
        exact ⟨false, rfl, iteF (k H (Same.refl H))⟩
end
end K24

set_option maxHeartbeats 8000000
namespace K24
open PySem PySem.Spec PyProof.Rows L2 G1
theorem TyX.same {K : PySem.W.Frag} {H H' : Hp} {v : V} {t : Value} (h : TyX K H v t) (s : Same H H') : TyX K H' v t := by
  cases h with
  | base h =>
    refine .base ?_
    cases h with
    | non => exact .non
    | bl x => exact .bl x
    | int x => exact .int x
    | str x => exact .str x
    | flt x => exact .flt x
    | lst e => exact .lst (s _ _ e)
    | frz e => exact .frz (s _ _ e)
    | tup e => exact .tup (s _ _ e)
    | dK e => exact .dK (s _ _ e)
    | dT e => exact .dT (s _ _ e)
    | ins e cl a b c d => exact .ins (s _ _ e) cl a b c d
  | byt b => exact .byt b
  | set e => exact .set (s _ _ e)
  | kList e c => exact .kList e c
  | kTuple e c => exact .kTuple e c
  | kDict e c => exact .kDict e c
  | fTuple e => exact .fTuple (s _ _ e)
  | fDict e => exact .fDict (s _ _ e)
theorem Nmb.same {K : PySem.W.Frag} {H H' : Hp} {v : V} {b : Bool} (h : Nmb K H v b) (s : Same H H') : Nmb K H' v b := by
  cases h with
  | str h => exact .str h
  | not t n => exact .not (TyX.same t s) n
inductive NmbL (K : PySem.W.Frag) (H : Hp) : List V → List Bool → Prop
  | nil : NmbL K H [] []
  | cons {v : V} {b : Bool} {vs : List V} {bs : List Bool} : Nmb K H v b → NmbL K H vs bs → NmbL K H (v :: vs) (b :: bs)
theorem NmbL.len {K : PySem.W.Frag} {H : Hp} {vs : List V} {bs : List Bool} (h : NmbL K H vs bs) : vs.length = bs.length := by
  induction h with
  | nil => rfl
  | cons _ _ ih => rw [List.length_cons, List.length_cons, ih]
theorem NmbL.same {K : PySem.W.Frag} {H H' : Hp} {vs : List V} {bs : List Bool} (h : NmbL K H vs bs) (s : Same H H') : NmbL K H' vs bs := by
  induction h with
  | nil => exact .nil
  | cons e _ ih => exact .cons (e.same s) ih
theorem NmbL.at {K : PySem.W.Frag} {H : Hp} {vs : List V} {bs : List Bool} (h : NmbL K H vs bs) : ∀ {i : Nat} {v : V}, vs[i]? = some v → ∃ b, bs[i]? = some b ∧ Nmb K H v b := by
  induction h with
  | nil => intro i v e; cases e
  | @cons v0 b0 vs bs h0 _ ih =>
    intro i v e
    match i, e with
    | 0, e =>
      cases e
      exact ⟨b0, rfl, h0⟩
    | i + 1, e => exact ih e
theorem NmbL.names {K : PySem.W.Frag} {H : Hp} {vs : List V} {bs : List Bool} (h : NmbL K H vs bs) (a : bs.all id = true) : ∃ zs : List Str, vs = zs.map V.str ∧ ∀ z ∈ zs, Nm z := by
  induction h with
  | nil => exact ⟨[], rfl, fun z hz => nomatch hz⟩
  | cons h0 _ ih =>
    rw [List.all_cons] at a
    obtain ⟨a1, a2⟩ := He.ba a
    obtain ⟨zs, rfl, hz⟩ := ih a2
    cases h0 with
    | @str z hl => exact ⟨z :: zs, rfl, fun y hy => by
        rcases List.mem_cons.mp hy with rfl | hy
        · exact isNm_iff.mp a1
        · exact hz y hy⟩
    | not _ _ => cases a1
theorem NmbL.ofNames {K : PySem.W.Frag} {H : Hp} {zs : List Str} (h : ∀ z ∈ zs, Nm z) : NmbL K H (zs.map V.str) (zs.map fun _ => true) := by
  induction zs with
  | nil => exact .nil
  | cons z zs ih =>
    have q := h z List.mem_cons_self
    have e := isNm_iff.mpr q
    have p : Nmb K H (.str z) (isNm z) := .str (by have := q.2.1; omega)
    rw [e] at p
    exact .cons p (ih fun y hy => h y (List.mem_cons_of_mem _ hy))
/-- what is told of it: no list, or a list with something in it that is no name; or names, and whether there are some, and no one twice -/
inductive Unl (K : PySem.W.Frag) (H : Hp) : V → Bool → Prop
  | no {v : V} {T : String} : TyX K H v (.type T) → kitB T "list" = some false → Unl K H v false
  | odd {a : Addr} {xs : List V} {bs : List Bool} : H a = some (.lst xs) → xs.length ≤ 100 → NmbL K H xs bs → bs.all id = false → Unl K H (.ref a) false
  | names {a : Addr} {zs : List Str} : H a = some (.lst (zs.map V.str)) → zs.length ≤ 100 → (∀ z ∈ zs, Nm z) → Unl K H (.ref a) (!zs.isEmpty && decide zs.Nodup)
theorem cnt_nodup (zs : List Str) : decide ((cntS zs zs.length : Int) = (zs.length : Int)) = decide zs.Nodup := by
  have q := cntS_full zs zs.length (Nat.le_refl _)
  rw [List.take_length] at q
  by_cases h : zs.Nodup
  · rw [decide_eq_true h, decide_eq_true (by have := q.mpr h; omega)]
  · rw [decide_eq_false h, decide_eq_false (fun e => h (q.mp (by omega)))]
def ndB (xs : List V) : Bool := decide ((xs.filterMap fun v => match v with | .str s => some s | _ => none).Nodup)
theorem nd_strs {zs : List Str} : ndB (zs.map V.str) = decide zs.Nodup := by
  unfold ndB
  rw [List.filterMap_map, show ((fun v => match v with | V.str s => some s | _ => none) ∘ V.str) = some from rfl, List.filterMap_some]
theorem unl_cases {K : PySem.W.Frag} {H : Hp} {v : V} {b : Bool} (h : Unl K H v b) : (∃ T, TyX K H v (.type T) ∧ kitB T "list" = some false ∧ b = false) ∨
    (∃ (a : Addr) (xs : List V) (bs : List Bool), v = .ref a ∧ H a = some (.lst xs) ∧ xs.length ≤ 100 ∧ NmbL K H xs bs ∧ b = (!xs.isEmpty && (bs.all id && ndB xs))) := by
  cases h with
  | @no _ T ty n => exact .inl ⟨T, ty, n, rfl⟩
  | @odd a xs bs h1 h2 h3 h4 => exact .inr ⟨a, xs, bs, rfl, h1, h2, h3, by rw [h4, Bool.false_and, Bool.and_false]⟩
  | @names a zs h1 h2 h3 =>
    refine .inr ⟨a, zs.map V.str, zs.map fun _ => true, rfl, h1, by rw [List.length_map]; exact h2, NmbL.ofNames h3, ?_⟩
    rw [nd_strs, List.all_map, show (zs.all (id ∘ fun _ => true)) = true from List.all_eq_true.mpr fun _ _ => rfl, Bool.true_and]
    cases zs <;> rfl
def spUnlike (K : PySem.W.Frag) : Sp := fun vs H Q _ => ∃ (v : V) (b : Bool), vs = [v] ∧ Unl K H v b ∧ ∀ H', Same H H' → Q (.bl b) H'
section
variable {P : Program} {w : World} {K : PySem.W.Frag} {mg : Str → Option Value} {base : Heap}
abbrev sUnlike : Stmt := top 13
theorem scUnlike : FnScope ["value", "name"] ["value"] (defScope sUnlike) := ⟨rfl, rfl, rfl, by decide +kernel, rfl, by decide +kernel, by decide +kernel⟩
theorem ok_unlike {f fN : Addr} {fd fdN : FuncData} (F : FnP K "are_unlike_names" sUnlike f fd) (L : Lib K mg) (LP : LibP mg) (FN : FnP K "is_name" sIsName fN fdN) (gN : mg "is_name" = some (.ref fN)) : FnOk P w K mg base CX0 2 f fd ["value"] (spUnlike K) := by
  have GN : FnOk P w K mg base CX0 1 fN fdN ["value"] (spIsName K) := ok_isName FN L LP
  have bN : Binds K fdN ["value"] [] := FN.bindsN fun _ _ _ _ _ _ us hl => match us, hl with | [_], _ => rfl
  refine okN F scUnlike (fun vs H Q E h => ?_) (fun cdv A outer s H vs Q E hr h => ?_)
  · obtain ⟨_, _, rfl, _⟩ := h
    rfl
  · obtain ⟨v, b, rfl, hv, k⟩ := h
    refine ⟨_, pss_cons (ps_if (PW.pt (pw_or (pt_not (pt_val (pe_callB call_isi (by rfl) LP.isi (by decide +kernel) (pa_cons (pv 0) (pa_cons (pe_bltn (v := .ty "list") (by rfl) LP.list (by decide +kernel) rfl) pa_nil)))))
        (pw_or1 (pt_not (pt_truth (pv 0) (by intro _; rfl)))))) (pss_one (ps_ret pe_bl)) pss_nil)
      (pss_one (ps_ret (pe_and (pe_callB (cr_all rfl) (by rfl) LP.all (by decide +kernel) (pa_cons
          (pe_lc (own := [("name", 1)]) (g := gName 1) (tt := tYes) (te := tCall (spIsName K) [] E0 (tCons (tVar 1) tNil)) rfl scUnlike.nd (pi_list (pv 0))
            (blkOk_by (N := ["value", "name"]) (sc := defScope sUnlike) (by decide +kernel)) (fun _ _ _ _ _ => pg_name (i := 1) scUnlike.nd rfl (Or.inl rfl)) (fun _ _ _ _ _ => pts_nil)
            (fun _ _ _ _ _ => pe_call GN hr (by rfl) gN FN.kp bN .nil pass0 (pa_cons (pv 1) pa_nil))) pa_nil))
        (pe_one (pe_cmpR op_eq (pe_lenStrs rfl (by rfl) L.len (by rfl) LP.set (pv 0)) (pe_callB call_len_seq (by rfl) L.len PySem.boot_len (pa_cons (pv 0) pa_nil)) (nomark _)))))), ?_⟩
    rcases unl_cases hv with ⟨T, ty, n, rfl⟩ | ⟨a, xs, bs, rfl, hH, hl, hb, rfl⟩
    · refine ⟨_, rfl, v, .ty "list", .type T, .type "list", false, rfl, .ty _, ty, kit_ty n, false, rfl, ?_⟩
      exact k H (Same.refl H)
    · refine ⟨_, rfl, .ref a, .ty "list", .type "list", .type "list", true, rfl, .ty _, .base (.lst hH), kit_ty (by decide +kernel), true, rfl, ?_⟩
      refine ⟨_, rfl, !xs.isEmpty, .inl ⟨xs, SqL.of hH, rfl⟩, ?_⟩
      cases xs with
      | nil => exact k H (Same.refl H)
      | cons x0 xs0 =>
        refine ⟨_, rfl, a, rfl, ⟨_, SqL.of hH⟩, fun D hD => lc_list (K := K) (a := a) (xs := x0 :: xs0) (fun i H' => H' D = some (.lst ((bs.take i).map V.bl)) ∧ Same H H') ⟨upd_same, sn hD⟩ (fun i H' _ h => SqL.of (h.2 _ _ hH)) ?_ ?_⟩
        · rintro i y H' hi ⟨q1, q2⟩
          obtain ⟨b1, hb1, nb⟩ := hb.at hi
          refine ⟨rfl, _, rfl, y, b1, rfl, nb.same q2, fun H2 s2 => ⟨_, s2 _ _ q1, ?_, ?_, fun c o e => ?_⟩⟩
          · refine small1000 ?_
            rw [List.length_map]
            have := List.length_take_le' i bs
            have := hb.len
            omega
          · rw [upd_same, List.take_succ, hb1, List.map_append]
            rfl
          · rw [upd_ne (ne_of_none e hD)]
            exact s2 _ _ (q2 _ _ e)
        · rintro H' ⟨q1, q2⟩
          rw [hb.len, List.take_length] at q1
          refine ⟨D, bs, rfl, SqL.of q1, _, rfl, ?_⟩
          cases hall : bs.all id with
          | false =>
            rw [hall] at k
            exact iteF (k H' q2)
          | true =>
            rw [hall] at k
            obtain ⟨zs, ez, hz⟩ := hb.names hall
            have hH' : H' a = some (.lst (zs.map V.str)) := by
              rw [← ez]
              exact q2 _ _ hH
            have lz : zs.length ≤ 100 := by
              rw [ez, List.length_map] at hl
              exact hl
            refine iteT ⟨_, rfl, a, zs, rfl, SqL.of hH', by omega, _, rfl, a, _, rfl, .inl (SqL.of hH'), rfl, ?_⟩
            have e : decide (V.int (cntS zs zs.length) = V.int (((zs.map V.str).length : Nat) : Int)) = ndB (x0 :: xs0) := by
              rw [ez, nd_strs, ← cnt_nodup, List.length_map]
              by_cases q : ((cntS zs zs.length : Int) = (zs.length : Int))
              · rw [decide_eq_true q, q]
                exact decide_eq_true rfl
              · rw [decide_eq_false q]
                exact decide_eq_false fun z => q (V.int.inj z)
            show Q (.bl (decide (V.int (cntS zs zs.length) = V.int (((zs.map V.str).length : Nat) : Int)))) H'
            rw [e]
            exact k H' q2
end
end K24

set_option maxHeartbeats 4000000
/-! Equality of things of all kinds, deep, the very same objects too. -/
namespace PySem.SeqAt
open AutoSeq1 (wpAny_loadPart')
open MeetsSeq
theorem g_dict_no_str (b : Str) (u : Tok) (l : Addr) (es : Array DictEntry) (n : Nat) (dd : Option Addr) (sl : Array (Option Value)) :
    Meets (Builtin.«dict.__eq__» ⟨[.ref l, .str b u], []⟩) (fun _ R s => s.heap.get? l = some { cls := .type "dict", dict := dd, data := .dict es n, slots := sl } ∧ R (.ok (.ret .notImplemented)) s) :=
  .of_wp fun prog w A R s h => by
    obtain ⟨hp, g, d, tk, os⟩ := s
    obtain ⟨hl, h⟩ := h
    have f1 := F.sub_str_dict
    wp_walk using wpAny_loadPart' hl, wpAny_load hl
    exact ⟨_, rfl, h⟩
theorem g_str_no_dict (b : Str) (u : Tok) (l : Addr) (es : Array DictEntry) (n : Nat) (dd : Option Addr) (sl : Array (Option Value)) :
    Meets (Builtin.«str.__eq__» ⟨[.str b u, .ref l], []⟩) (fun _ R s => s.heap.get? l = some { cls := .type "dict", dict := dd, data := .dict es n, slots := sl } ∧ R (.ok (.ret .notImplemented)) s) :=
  .of_wp fun prog w A R s h => by
    obtain ⟨hp, g, d, tk, os⟩ := s
    obtain ⟨hl, h⟩ := h
    wp_walk using wpAny_loadPart' hl, wpAny_load hl
    exact ⟨_, rfl, h⟩
section
variable {A : Around} {s : Shared} {l : Addr} {es : Array DictEntry} {n : Nat} {dd : Option Addr} {sl : Array (Option Value)}
theorem g_str_dict (b : Str) (u : Tok) (ho : s.heap.get? l = some { cls := .type "dict", dict := dd, data := .dict es n, slots := sl }) (hu : A.units < cLine) : EqAt A s (.str b u) (.ref l) false := fun prog w E Q h => by
  unfold eqBool
  refine wpAny_holding (wpAny_ite_split (fun q => absurd (eq_of_beq q) nofun) fun _ => wpAny_bind ?_)
  exact rc_eq_decline_or (k := false) (typeIs_str s b u) ⟨_, ho, rfl⟩ (by decide) F.sub_dict_str F.slot_str_eq F.slot_dict_eq_refl
    (fun _ q => call_meets F.slot_str_eq (typeIs_str s b u) F.entry_str_eq (F.args_str_eq_2 _ _) (g_str_no_dict b u l es n dd sl) ⟨ho, q⟩)
    (fun _ q => call_meets F.slot_dict_eq_refl ⟨_, ho, rfl⟩ F.entry_dict_eq (F.args_dict_eq_2 _ _) (g_dict_no_str b u l es n dd sl) ⟨ho, q⟩)
    (fun _ q => wpAny_of_eq (rfl : isSame (.str b u) (.ref l) = pure false) q) (.inr hu) (wpAny_truthy_bool h)
end
end PySem.SeqAt

set_option maxHeartbeats 4000000
namespace G1
open PySem PySem.Spec PyProof.Rows L2
/-- whether two things are equal, at most n deep (of things that stand in lists: the very same thing is equal to itself) -/
inductive EqW (K : PySem.W.Frag) (H : Hp) : Nat → V → V → Bool → Prop
  | flat {n : Nat} {x y : V} : flatV x = true → flatV y = true → EqW K H n x y (eqV x y)
  | same {n : Nat} {a : Addr} : EqW K H n (.ref a) (.ref a) true
  | lists {n : Nat} {a b : Addr} {xs ys : List V} {f : Nat → Bool} : a ≠ b → SqL K H a xs → SqL K H b ys → xs.length = ys.length → (∀ i x y, xs[i]? = some x → ys[i]? = some y → EqW K H n x y (f i)) →
      EqW K H (n + 1) (.ref a) (.ref b) ((List.range xs.length).all f)
  | lens {n : Nat} {a b : Addr} {xs ys : List V} : a ≠ b → SqL K H a xs → SqL K H b ys → xs.length ≠ ys.length → EqW K H (n + 1) (.ref a) (.ref b) false
  | strList {n : Nat} {z : Str} {b : Addr} {ys : List V} : SqL K H b ys → EqW K H (n + 1) (.str z) (.ref b) false
  | strTup {n : Nat} {z : Str} {b : Addr} {ys : List V} : SqT K H b ys → EqW K H (n + 1) (.str z) (.ref b) false
  | strDict {n : Nat} {z : Str} {b : Addr} {kvs : List (Key × V)} : H b = some (.dK kvs) → EqW K H (n + 1) (.str z) (.ref b) false
section
variable {X : Cx} {pins : List (Addr × Obj)} {σ : L2.St} {H : Hp} {s : Shared}
theorem vals_at : ∀ {xs : List V} {us : List Value} {i : Nat} {u : Value}, Vals xs us → us[i]? = some u → ∃ x, xs[i]? = some x ∧ RelV x u
  | _, _, i, _, .nil, h => by simp at h
  | x :: xs, u :: us, 0, _, .cons r t, h => by
    cases h
    exact ⟨x, rfl, r⟩
  | x :: xs, u :: us, i + 1, _, .cons r t, h => vals_at (xs := xs) (us := us) (i := i) t h
theorem EqW.at {n : Nat} {x y : V} {b : Bool} (h : EqW X.K H n x y b) (I : Inv X pins σ H s) : ∀ {A : Around} {u v : Value}, A.units + n < cLine → RelV x u → RelV y v → SeqAt.EqAt A s u v b := by
  induction h with
  | flat fx fy =>
    intro A u v _ rx ry
    exact eqAt_V rx ry fx fy
  | same =>
    intro A u v _ rx ry
    cases rx
    cases ry
    exact SeqAt.EqAt.same _
  | @lists n a b xs ys f ne ha hb len hf ih =>
    intro A u v hu rx ry
    cases rx
    cases ry
    obtain ⟨is, r1, p1, _⟩ := I.list ha
    obtain ⟨js, r2, p2, _⟩ := I.list hb
    have e1 := r1.length
    have e2 := r2.length
    have q := SeqAt.RcAt.lists (A := A) (s := s) (e := f) p1.isList p2.isList (by simp only [List.size_toArray]; omega) (by omega) fun j h1 h2 => by
      have g1 : is[j]? = some (is.toArray[j]'h1) := by simp
      have g2 : js[j]? = some (js.toArray[j]'h2) := by simp
      obtain ⟨x1, hx1, rx1⟩ := vals_at r1 g1
      obtain ⟨y1, hy1, ry1⟩ := vals_at r2 g2
      exact ih j x1 y1 hx1 hy1 (A := A.in1) (by have := units_in1 A; omega) rx1 ry1
    rw [List.size_toArray, ← e1] at q
    exact SeqAt.EqAt.of_refs ne q
  | @lens n a b xs ys ne ha hb len =>
    intro A u v hu rx ry
    cases rx
    cases ry
    obtain ⟨is, r1, p1, _⟩ := I.list ha
    obtain ⟨js, r2, p2, _⟩ := I.list hb
    have e1 := r1.length
    have e2 := r2.length
    exact SeqAt.EqAt.of_refs ne (SeqAt.RcAt.lists_lengths p1.isList p2.isList (by simp only [List.size_toArray, bne_iff_ne]; omega) (by omega))
  | @strList n z b ys hb =>
    intro A u v hu rx ry
    obtain ⟨t, rfl⟩ := rx
    cases ry
    obtain ⟨js, _, p2, _⟩ := I.list hb
    exact SeqAt.EqAt.str_list z t p2.isList (by omega)
  | @strTup n z b ys hb =>
    intro A u v hu rx ry
    obtain ⟨t, rfl⟩ := rx
    cases ry
    obtain ⟨js, _, p2, _⟩ := I.tuple hb
    exact SeqAt.EqAt.str_tuple z t p2 (by omega)
  | @strDict n z b kvs hb =>
    intro A u v hu rx ry
    obtain ⟨t, rfl⟩ := rx
    cases ry
    obtain ⟨_, _, vs, _, o, es, ep, ho, hx, hd, _⟩ := (show ObjOk X.prog X.w H s.heap b (.dK kvs) from I.hok b _ hb)
    obtain ⟨oc, od, dt, os⟩ := o
    dsimp only at hd
    subst hd
    obtain ⟨hc, _⟩ := hx
    dsimp only at hc
    subst hc
    exact SeqAt.g_str_dict z t ho (by omega)
end
end G1

set_option maxHeartbeats 4000000
namespace G1
open PySem PySem.Spec PyProof.Rows L2
/-- two lists, equal or not, their items at most n deep -/
def Lists2 (K : PySem.W.Frag) (H : Hp) (n : Nat) (x y : V) (b : Bool) : Prop := ∃ (a c : Addr) (xs ys : List V), x = .ref a ∧ y = .ref c ∧ SqL K H a xs ∧ SqL K H c ys ∧
  ((xs.length ≠ ys.length ∧ b = false) ∨ (xs.length = ys.length ∧ ∃ f : Nat → Bool, (∀ i x y, xs[i]? = some x → ys[i]? = some y → EqW K H n x y (f i)) ∧ b = (List.range xs.length).all f))
def rEqW (K : PySem.W.Frag) (n : Nat) : R2 := fun x y H Q => ∃ b, Lists2 K H n x y b ∧ Q (.bl b) H
def rNeW (K : PySem.W.Frag) (n : Nat) : R2 := fun x y H Q => ∃ b, Lists2 K H n x y b ∧ Q (.bl (!b)) H
section
variable {X : Cx} {n : Nat}
theorem items_at {pins : List (Addr × Obj)} {σ : L2.St} {H : Hp} {s : Shared} {xs ys : List V} {is js : List Value} {f : Nat → Bool} (I : Inv X pins σ H s) (r1 : Vals xs is) (r2 : Vals ys js) (hf : ∀ i x y, xs[i]? = some x → ys[i]? = some y → EqW X.K H n x y (f i)) {A : Around} (hu : A.units + n < cLine) :
    ∀ j (h1 : j < is.toArray.size) (h2 : j < js.toArray.size), SeqAt.EqAt A s is.toArray[j] js.toArray[j] (f j) := fun j h1 h2 => by
  have g1 : is[j]? = some (is.toArray[j]'h1) := by simp
  have g2 : js[j]? = some (js.toArray[j]'h2) := by simp
  obtain ⟨x1, hx1, rx1⟩ := vals_at r1 g1
  obtain ⟨y1, hy1, ry1⟩ := vals_at r2 g2
  exact (hf j x1 y1 hx1 hy1).at I hu rx1 ry1
theorem op_eqW (hu : X.A.units + (n + 1) < cLine) : OpR X (compareOp .Eq) (rEqW X.K n) := by
  intro pins s σ H x y v u Q I rx ry h
  obtain ⟨b, ⟨a, c, xs, ys, rfl, rfl, ha, hc, h⟩, q⟩ := h
  cases rx
  cases ry
  obtain ⟨is, r1, p1, _⟩ := I.list ha
  obtain ⟨js, r2, p2, _⟩ := I.list hc
  have e1 := r1.length
  have e2 := r2.length
  rcases h with ⟨ne, rfl⟩ | ⟨len, f, hf, rfl⟩
  · exact SeqAt.RcAt.lists_lengths p1.isList p2.isList (by simp only [List.size_toArray, bne_iff_ne]; omega) (by omega) _ _ _ _ ⟨.bl false, H, I, rfl, q⟩
  · have z := SeqAt.RcAt.lists (A := X.A) p1.isList p2.isList (e := f) (by simp only [List.size_toArray]; omega) (by omega) (items_at I r1 r2 hf (by have := units_in1 X.A; omega))
    rw [List.size_toArray, ← e1] at z
    exact z _ _ _ _ ⟨.bl _, H, I, rfl, q⟩
theorem op_neW (hu : X.A.units + (n + 1) < cLine) : OpR X (compareOp .NotEq) (rNeW X.K n) := by
  intro pins s σ H x y v u Q I rx ry h
  obtain ⟨b, ⟨a, c, xs, ys, rfl, rfl, ha, hc, h⟩, q⟩ := h
  cases rx
  cases ry
  obtain ⟨is, r1, p1, _⟩ := I.list ha
  obtain ⟨js, r2, p2, _⟩ := I.list hc
  have e1 := r1.length
  have e2 := r2.length
  rcases h with ⟨ne, rfl⟩ | ⟨len, f, hf, rfl⟩
  · exact SeqAt.RcNeAt.lists_lengths p1.isList p2.isList (by simp only [List.size_toArray, bne_iff_ne]; omega) (by omega) _ _ _ _ ⟨.bl true, H, I, rfl, q⟩
  · have z := SeqAt.RcNeAt.lists (A := X.A) p1.isList p2.isList (e := f) (by simp only [List.size_toArray]; omega) (by omega) (items_at I r1 r2 hf (by have := units_in1 X.A; omega))
    rw [List.size_toArray, ← e1] at z
    exact z _ _ _ _ ⟨.bl _, H, I, rfl, q⟩
/-- x in a list of texts, x of any kind -/
def rInW (K : PySem.W.Frag) (n : Nat) : R2 := fun x y H Q => ∃ (p : Addr) (zs : List Str) (f : Str → Bool), y = .ref p ∧ SqL K H p (zs.map V.str) ∧ (∀ z ∈ zs, EqW K H n (.str z) x (f z)) ∧ Q (.bl (zs.any f)) H
def itemS (f : Str → Bool) : Value → Bool
  | .str z _ => f z
  | _ => false
theorem any_itemS {f : Str → Bool} : ∀ {zs : List Str} {us : List Value}, Vals (zs.map V.str) us → us.any (itemS f) = zs.any f
  | [], _, .nil => rfl
  | z :: zs, u :: us, .cons r t => by
    obtain ⟨k, rfl⟩ := r
    rw [List.any_cons, List.any_cons, any_itemS t]
    rfl
theorem op_inW (hu : X.A.units + (n + 1) < cLine) : OpR X (compareOp .In) (rInW X.K n) := by
  intro pins s σ H x y v u Q I rx ry h
  obtain ⟨p, zs, f, rfl, hp, hf, q⟩ := h
  cases ry
  obtain ⟨is, r1, p1, _⟩ := I.list hp
  refine SeqAt.in_listAt (itemS f) p1.isList (fun w hw => ?_) ⟨.bl _, H, I, rfl, ?_⟩
  · obtain ⟨i, hi, e⟩ := List.mem_iff_getElem.mp (show w ∈ is by simpa using hw)
    obtain ⟨x1, hx1, rx1⟩ := vals_at r1 (i := i) (u := w) (by rw [← e]; exact List.getElem?_eq_getElem hi)
    rw [List.getElem?_map] at hx1
    obtain ⟨z, hz, rfl⟩ := Option.map_eq_some_iff.mp hx1
    have q1 := (hf z (List.mem_of_getElem? hz)).at I (A := X.A.in1) (by have := units_in1 X.A; omega) rx1 rx
    obtain ⟨k, rfl⟩ := rx1
    exact q1
  · rw [show is.toArray.any (itemS f) = is.any (itemS f) by simp, any_itemS r1]
    exact q
end
end G1

set_option maxHeartbeats 4000000
/-! x == y by an own __eq__, whatever it answers. -/
namespace G1
open PySem PySem.Spec PyProof.Rows L2
/-- the types that are told here -/
inductive TyE (H : Hp) : V → Value → Prop
  | non : TyE H .non (.type "NoneType")
  | bl (x : Bool) : TyE H (.bl x) (.type "bool")
  | int (i : Int) : TyE H (.int i) (.type "int")
  | str (z : Str) : TyE H (.str z) (.type "str")
  | lst {a : Addr} {xs : List V} : H a = some (.lst xs) → TyE H (.ref a) (.type "list")
  | tup {a : Addr} {xs : List V} : H a = some (.tup xs) → TyE H (.ref a) (.type "tuple")
  | dK {a : Addr} {kvs : List (Key × V)} : H a = some (.dK kvs) → TyE H (.ref a) (.type "dict")
  | ins {a C dx : Addr} {fs : List (Str × V)} : H a = some (.ins C dx fs) → TyE H (.ref a) (.ref C)
theorem TyE.same {H H' : Hp} {x : V} {t : Value} (h : TyE H x t) (s : Same H H') : TyE H' x t := by
  cases h with
  | non => exact .non
  | bl x => exact .bl x
  | int x => exact .int x
  | str x => exact .str x
  | lst e => exact .lst (s _ _ e)
  | tup e => exact .tup (s _ _ e)
  | dK e => exact .dK (s _ _ e)
  | ins e => exact .ins (s _ _ e)
section
variable {X : Cx} {pins : List (Addr × Obj)} {σ : L2.St} {H : Hp} {s : Shared}
theorem looks_ref {M : Model} {h : Heap} {a : Addr} {o : Obj} {t : Value} (e : h.get? a = some o) (c : o.cls = t) : PySem.W.Looks M h (typeOf (.ref a)) t := c ▸ (PySem.W.Looks.ld e).andThen .now
theorem looks_ty {x : V} {u t : Value} {M : Model} (I : Inv X pins σ H s) (rx : RelV x u) (ty : TyE H x t) : PySem.W.Looks M s.heap (typeOf u) t := by
  cases ty with
  | non =>
    cases rx
    exact PySem.W.Looks.now
  | bl x =>
    cases rx
    exact PySem.W.Looks.now
  | int i =>
    obtain ⟨k, rfl⟩ := rx
    exact PySem.W.Looks.now
  | str i =>
    obtain ⟨k, rfl⟩ := rx
    exact PySem.W.Looks.now
  | lst e =>
    cases rx
    obtain ⟨_, _, p, _⟩ := I.list (SqL.of (K := X.K) e)
    obtain ⟨o, ho, hc, _⟩ := p.isList
    exact looks_ref ho hc
  | tup e =>
    cases rx
    obtain ⟨_, _, p, _⟩ := I.tuple (SqT.of (K := X.K) e)
    obtain ⟨o, ho, hc, _⟩ := p
    exact looks_ref ho hc
  | dK e =>
    cases rx
    obtain ⟨_, _, vs, _, o, es, ep, ho, hx, _⟩ := (show ObjOk X.prog X.w H s.heap _ (.dK _) from I.hok _ _ e)
    exact looks_ref ho hx.1
  | ins e =>
    cases rx
    obtain ⟨mA, J, _⟩ := ins_get I.hok e
    obtain ⟨od, J, _⟩ := J.look
    exact J.type
/-- what an own __eq__ promises -/
def spEqB (D : V → V → Hp → Bool → Prop) : Sp := fun vs H Q _ => ∃ (x y : V) (b : Bool), vs = [x, y] ∧ D x y H b ∧ ∀ H', Same H H' → Q (.bl b) H'
def rEqO (K : PySem.W.Frag) (C : Addr) (D : V → V → Hp → Bool → Prop) : R2 := fun x y H Q => ∃ (a dx : Addr) (fs : List (Str × V)) (t : Value) (b : Bool), x = .ref a ∧ H a = some (.ins C dx fs) ∧ TyE H y t ∧ PySem.W.notFirst K C t = true ∧ D x y H b ∧ ∀ H', Same H H' → Q (.bl b) H'
theorem op_eqOwn {C f : Addr} {fd : FuncData} {ps : List Str} {k : Nat} {D : V → V → Hp → Bool → Prop} (F : FnOk X.prog X.w X.K X.mg X.base CX0 k f fd ps (spEqB D)) (hr : Room k X.A)
    (hs : PySem.W.findIn X.K (.ref C) "__eq__" = some (some (.ref f))) (hf : PySem.W.isFn X.K (.ref f) = true) (hb : Binds X.K fd ps []) : OpR X (compareOp .Eq) (rEqO X.K C D) := by
  intro pins s σ H x y v u Q I rx ry h
  obtain ⟨a, dx, fs, t, b, rfl, ha, ty, nf, hD, q⟩ := h
  cases rx
  obtain ⟨mA, J, _⟩ := ins_get I.hok ha
  obtain ⟨od, J, _⟩ := J.look
  obtain ⟨m, hF⟩ := I.fr
  refine PySem.W.cmp_K (op := .Eq) (tb := t) hr.units0 hF I.ok.mod.kin J (looks_ty I ry ty) nf hs hf ?_
  have r2 : Vals [V.ref a, y] [Value.ref a, u] := .cons rfl (.cons ry .nil)
  have sp : spEqB D ([V.ref a, y] ++ []) H (fun v H' => v = .bl b ∧ Same H H') E0 := ⟨.ref a, y, b, rfl, hD, fun H' s' => ⟨rfl, s'⟩⟩
  have len := F.len _ _ _ _ sp
  refine wpAny_call (codeAny_mono (F.run X.A X.stack s H ⟨[.ref a, u], []⟩ [.ref a, u] [V.ref a, y] _ E0 hr I.env0 (by
    have z := hb s [.ref a, u] I.kIn (by simpa using len)
    simpa using z) r2 sp) fun r s' hq => ?_)
  match r, hq with
  | .error e, hq => exact pass0 (X := X) pins σ H s e s' I hq
  | .ok (.ret w), hq =>
    obtain ⟨z, H', I', rz, ez, ex⟩ := I.after hq
    subst ez
    cases rz
    exact ⟨.bl b, H', I', rfl, q H' ex⟩
end
end G1

set_option maxHeartbeats 4000000
/-! x != y by an own __eq__. -/
namespace G1
open PySem PySem.W PySem.Calls PyProof.Rows
theorem slot_one : Slot "object" "__ne__" "object.__ne__" :=
  Slot.of (T := "object") (name := "__ne__") (owner := "object") (n := "__ne__") (by rw [typeLookup_type, builtinLookup_eq_fast]; kernel_rfl) (by decide +kernel) (by decide +kernel) (by decide +kernel) (.inl (by decide +kernel)) (by rw [isSubtype_type]; kernel_rfl)
section
variable {prog : Program} {w : World} {A : Around} {E : Value → Shared → Prop} {s : Shared} {K : Frag} {x C L f : Addr} {h₀ : Heap} {m : Str → Option Value} {ox : Obj} {od : Option Obj} {b tb : Value}
theorem ifBound_ne {M : Model} {args : List Value} {Q : Option Value → Shared → Prop} (X : K.In s.heap) (I : InstAt s.heap x ox C od) (hs : findIn K (.ref C) "__ne__" = some (some (.builtin "object.__ne__")))
    (h : wpAny M A (call (.builtin "object.__ne__") (.ref x :: args)) (fun v => Q (some v)) E s) : wpAny M A (callSpecialIfBound? (.ref x) "__ne__" args) Q E s := by
  simp only [callSpecialIfBound?, bindSpecialIfBound?]
  have fin : wpAny M A (call (.builtin "object.__ne__") ([.ref x] ++ args) >>= fun v => pure (some v)) Q E s := wpAny_bind (wpAny_mono h (fun v s' q => wpAny_pure q) fun _ _ q => q)
  refine wpAny_holding (wpAny_bind (wpAny_bind (wpAny_bind (I.type.here ((looks_findIn X hs).here ?_)))))
  simp only [slot_one.bind]
  refine wpAny_bind (wpAny_askSetting (wpAny_ite ?_))
  split
  · exact wpAny_bind (wpAny_pure (wpAny_pure fin))
  · exact wpAny_tryCatch (wpAny_bind (wpAny_pure (wpAny_pure fin)))
theorem check_ne {M : Model} {Q : Unit → Shared → Prop} (X : K.In s.heap) (I : InstAt s.heap x ox C od) (ho : subIn K (.ref C) (.type "object") = some true) (q : Q () s) :
    wpAny M A (checkBuiltinCall "object.__ne__" ⟨[.ref x, b], []⟩) Q E s := by
  simp only [checkBuiltinCall, PySem.F.cmpKind_ne, PySem.F.cmpSplit_ne]
  refine wpAny_bind ?_
  · unfold isInstance
    refine wpAny_bind (I.type.here ((looks_subIn X ho).here ?_))
    have ha : argsOk "object.__ne__" ⟨[.ref x, b], []⟩ := PySem.F.cmpArgs_ne _ _
    simp only [Bool.not_true, Bool.false_eq_true, if_false]
    cases hsig : Manifest.signature? "object.__ne__" with
    | none => exact wpAny_pure q
    | some sig =>
      simp only [argsOk, hsig] at ha
      have e : Bind.checkArgs "object.__ne__" sig ⟨[.ref x, b], []⟩ = pure () := ha
      show wpAny M A (Bind.checkArgs "object.__ne__" sig ⟨[.ref x, b], []⟩) Q E _
      rw [e]
      exact wpAny_pure q
theorem entry_ne (X : K.In s.heap) (I : InstAt s.heap x ox C od) (hs : findIn K (.ref C) "__eq__" = some (some (.ref f))) (hf : isFn K (.ref f) = true) (hu : A.units < cLine) {Q : Fin → Shared → Prop}
    (h : wpAny (model prog w) A (call (.ref f) [.ref x, b]) (fun v s' => ∃ c, v = .bool c ∧ Q (.done (.ret (.bool (!c)))) s') E s) : wpAny (model prog w) A (Builtin.«object.__ne__» ⟨[.ref x, b], []⟩) Q E s := by
  unfold Builtin.«object.__ne__»
  repeat (first
    | with_reducible refine wpAny_cRoomFor hu ?_
    | (refine wpAny_bind (m := callSpecialIfBound? (.ref x) (Str.ofString "__eq__") [b]) (ifBound_K X I hs hf (wpAny_mono h (fun r s' hr => by
        obtain ⟨c, rfl, hq⟩ := hr
        repeat (first | exact hq | exact wpAny_pure hq | exact wpAny_truthy_bool hq | (refine wpAny_bind (m := truthy (.bool _)) (wpAny_truthy_bool ?_)) | wp_step)) fun _ _ e => e)))
    | wp_step)
theorem ne_K {Q : Value → Shared → Prop} (hu : A.units + 1 < cLine) (F : Fr h₀ L s.heap m) (X₀ : K.In h₀) (I : InstAt s.heap x ox C od) (hb : Looks (model prog w) s.heap (typeOf b) tb) (hn : notFirst K C tb = true)
    (hne : findIn K (.ref C) "__ne__" = some (some (.builtin "object.__ne__"))) (ho : subIn K (.ref C) (.type "object") = some true) (hs : findIn K (.ref C) "__eq__" = some (some (.ref f))) (hf : isFn K (.ref f) = true)
    (h : wpAny (model prog w) A.in1 (call (.ref f) [.ref x, b]) (fun v s' => ∃ c, v = .bool c ∧ Q (.bool (!c)) s') E s) : wpAny (model prog w) A (richCompare .NotEq (.ref x) b) Q E s := by
  have X := X₀.keeps F.keep
  have one : wpAny (model prog w) A (tryCompare (.ref x) "__ne__" b) (fun r s' => ∃ v, r = some v ∧ Q v s') E s := by
    simp only [tryCompare]
    refine wpAny_bind (ifBound_ne X I hne (wpAny_call (codeAny_call_builtin slot_one.plain PySem.F.cmpEntry_ne (check_ne X I ho (entry_ne X I hs hf hu (wpAny_mono h (fun v s' hv => ?_) fun _ _ e => e))))))
    obtain ⟨c, rfl, hq⟩ := hv
    exact ⟨c, rfl, wpAny_pure ⟨_, rfl, hq⟩⟩
  unfold richCompare
  simp only [oneThing_ref]
  refine wpAny_holding (wpAny_bind (wpAny_cRoomFor (Nat.lt_of_succ_lt hu) ?_))
  rw [cmpInfo_NotEq]
  dsimp only
  refine wpAny_bind (I.type.here (wpAny_bind (hb.here ?_)))
  by_cases q : (Value.ref C != tb) = true
  · have e : subIn K tb (.ref C) = some false := by
      rcases Bool.or_eq_true_iff.mp hn with e | e
      · rw [beq_iff_eq.mp e] at q
        simp at q
      · exact beq_iff_eq.mp e
    rw [if_pos q]
    refine wpAny_bind ((looks_subIn X e).here ?_)
    simp only [Bool.false_eq_true, if_false]
    refine wpAny_bind (wpAny_mono one (fun r s' z => ?_) fun _ _ e => e)
    obtain ⟨v, rfl, hq⟩ := z
    exact wpAny_pure hq
  · rw [if_neg q]
    refine wpAny_bind (wpAny_pure ?_)
    simp only [Bool.false_eq_true, if_false]
    refine wpAny_bind (wpAny_mono one (fun r s' z => ?_) fun _ _ e => e)
    obtain ⟨v, rfl, hq⟩ := z
    exact wpAny_pure hq
end
end G1
namespace G1
open PySem PySem.Spec PyProof.Rows L2
section
variable {X : Cx} {pins : List (Addr × Obj)} {σ : L2.St} {H : Hp} {s : Shared}
def rNeO (K : PySem.W.Frag) (C : Addr) (D : V → V → Hp → Bool → Prop) : R2 := fun x y H Q => ∃ (a dx : Addr) (fs : List (Str × V)) (t : Value) (b : Bool), x = .ref a ∧ H a = some (.ins C dx fs) ∧ TyE H y t ∧ PySem.W.notFirst K C t = true ∧ D x y H b ∧ ∀ H', Same H H' → Q (.bl (!b)) H'
theorem op_neOwn {C f : Addr} {fd : FuncData} {ps : List Str} {k : Nat} {D : V → V → Hp → Bool → Prop} (F : FnOk X.prog X.w X.K X.mg X.base CX0 k f fd ps (spEqB D)) (hr : Room (k + 1) X.A)
    (hne : PySem.W.findIn X.K (.ref C) "__ne__" = some (some (.builtin "object.__ne__"))) (ho : PySem.W.subIn X.K (.ref C) (.type "object") = some true)
    (hs : PySem.W.findIn X.K (.ref C) "__eq__" = some (some (.ref f))) (hf : PySem.W.isFn X.K (.ref f) = true) (hb : Binds X.K fd ps []) : OpR X (compareOp .NotEq) (rNeO X.K C D) := by
  intro pins s σ H x y v u Q I rx ry h
  obtain ⟨a, dx, fs, t, b, rfl, ha, ty, nf, hD, q⟩ := h
  cases rx
  obtain ⟨mA, J, _⟩ := ins_get I.hok ha
  obtain ⟨od, J, _⟩ := J.look
  obtain ⟨m, hF⟩ := I.fr
  have hr1 : Room k X.A.in1 := hr.in1
  refine ne_K (tb := t) hr1.units0 hF I.ok.mod.kin J (looks_ty I ry ty) nf hne ho hs hf ?_
  have r2 : Vals [V.ref a, y] [Value.ref a, u] := .cons rfl (.cons ry .nil)
  have sp : spEqB D ([V.ref a, y] ++ []) H (fun v H' => v = .bl b ∧ Same H H') E0 := ⟨.ref a, y, b, rfl, hD, fun H' s' => ⟨rfl, s'⟩⟩
  have len := F.len _ _ _ _ sp
  have e0 : Env0 X.prog X.w X.K X.mg X.base X.A.in1 X.stack s H := by
    have e := I.env0
    exact ⟨e.frames, e.mod, e.bs, e.bsz, e.funs, e.frf, e.hok, e.bare⟩
  refine wpAny_call (codeAny_mono (F.run X.A.in1 X.stack s H ⟨[.ref a, u], []⟩ [.ref a, u] [V.ref a, y] _ E0 hr1 e0 (by
    have z := hb s [.ref a, u] I.kIn (by simpa using len)
    simpa using z) r2 sp) fun r s' hq => ?_)
  match r, hq with
  | .error e, hq => exact pass0 (X := X) pins σ H s e s' I hq
  | .ok (.ret w), hq =>
    obtain ⟨z, H', I', rz, ez, ex⟩ := I.after hq
    subst ez
    cases rz
    exact ⟨b, rfl, .bl (!b), H', I', rfl, q H' ex⟩
end
end G1

set_option maxHeartbeats 4000000
namespace G1
open PySem PySem.Spec PyProof.Rows L2
theorem all_range_eq {α : Type} [DecidableEq α] {xs ys : List α} (l : xs.length = ys.length) : ((List.range xs.length).all fun i => decide (xs[i]? = ys[i]?)) = decide (xs = ys) := by
  by_cases h : xs = ys
  · subst h
    rw [decide_eq_true rfl]
    exact List.all_eq_true.mpr fun i _ => decide_eq_true rfl
  · rw [decide_eq_false h, Bool.eq_false_iff]
    intro q
    refine h (List.ext_getElem? fun i => ?_)
    by_cases lt : i < xs.length
    · exact of_decide_eq_true (List.all_eq_true.mp q i (List.mem_range.mpr lt))
    · rw [List.getElem?_eq_none (by omega), List.getElem?_eq_none (by omega)]
/-- lists of texts -/
theorem lists_strs {K : PySem.W.Frag} {H : Hp} {a c : Addr} {xs ys : List Str} (ha : SqL K H a (xs.map V.str)) (hc : SqL K H c (ys.map V.str)) : Lists2 K H 0 (.ref a) (.ref c) (decide (xs = ys)) := by
  refine ⟨a, c, _, _, rfl, rfl, ha, hc, ?_⟩
  by_cases l : xs.length = ys.length
  · refine .inr ⟨by rw [List.length_map, List.length_map, l], fun i => decide (xs[i]? = ys[i]?), fun i x y hx hy => ?_, by rw [List.length_map, all_range_eq l]⟩
    rw [List.getElem?_map] at hx hy
    obtain ⟨z, hz, rfl⟩ := Option.map_eq_some_iff.mp hx
    obtain ⟨z2, hz2, rfl⟩ := Option.map_eq_some_iff.mp hy
    have e : eqV (.str z) (.str z2) = decide (xs[i]? = ys[i]?) := by
      rw [hz, hz2]
      show (z == z2) = _
      by_cases q : z = z2
      · simp [q]
      · rw [beq_eq_false_iff_ne.mpr q, decide_eq_false (fun w => q (Option.some.inj w))]
    show EqW K H 0 (.str z) (.str z2) (decide (xs[i]? = ys[i]?))
    rw [← e]
    exact .flat rfl rfl
  · exact .inl ⟨by rw [List.length_map, List.length_map]; exact l, decide_eq_false fun e => l (by rw [e])⟩
end G1

set_option maxHeartbeats 8000000
namespace K24
open PySem PySem.Spec PyProof.Rows L2 G1
/-- what may stand in a row: a text, or something that is none -/
inductive RIt (K : PySem.W.Frag) (H : Hp) : V → Option Str → Prop
  | str (z : Str) : RIt K H (.str z) (some z)
  | non : RIt K H .non none
  | bl (b : Bool) : RIt K H (.bl b) none
  | int (i : Int) : RIt K H (.int i) none
  | lst {a : Addr} {ys : List V} : H a = some (.lst ys) → RIt K H (.ref a) none
  | tup {a : Addr} {ys : List V} : H a = some (.tup ys) → RIt K H (.ref a) none
  | dK {a : Addr} {kvs : List (Key × V)} : H a = some (.dK kvs) → RIt K H (.ref a) none
theorem RIt.same {K : PySem.W.Frag} {H H' : Hp} {v : V} {o : Option Str} (h : RIt K H v o) (s : Same H H') : RIt K H' v o := by
  cases h with
  | str z => exact .str z
  | non => exact .non
  | bl b => exact .bl b
  | int i => exact .int i
  | lst e => exact .lst (s _ _ e)
  | tup e => exact .tup (s _ _ e)
  | dK e => exact .dK (s _ _ e)
theorem RIt.ty {K : PySem.W.Frag} {H : Hp} {v : V} {o : Option Str} (h : RIt K H v o) : ∃ T : String, TyX K H v (.type T) ∧ kitB T "str" = some o.isSome := by
  cases h with
  | str z => exact ⟨"str", .base (.str z), show kitB "str" "str" = some true by decide +kernel⟩
  | non => exact ⟨"NoneType", .base .non, by decide +kernel⟩
  | bl b => exact ⟨"bool", .base (.bl b), by decide +kernel⟩
  | int i => exact ⟨"int", .base (.int i), by decide +kernel⟩
  | lst e => exact ⟨"list", .base (.lst e), by decide +kernel⟩
  | tup e => exact ⟨"tuple", .base (.tup e), by decide +kernel⟩
  | dK e => exact ⟨"dict", .base (.dK e), by decide +kernel⟩
inductive RItL (K : PySem.W.Frag) (H : Hp) : List V → List (Option Str) → Prop
  | nil : RItL K H [] []
  | cons {v : V} {o : Option Str} {vs : List V} {os : List (Option Str)} : RIt K H v o → RItL K H vs os → RItL K H (v :: vs) (o :: os)
theorem RItL.len {K : PySem.W.Frag} {H : Hp} {vs : List V} {os : List (Option Str)} (h : RItL K H vs os) : vs.length = os.length := by
  induction h with
  | nil => rfl
  | cons _ _ ih => rw [List.length_cons, List.length_cons, ih]
theorem RItL.same {K : PySem.W.Frag} {H H' : Hp} {vs : List V} {os : List (Option Str)} (h : RItL K H vs os) (s : Same H H') : RItL K H' vs os := by
  induction h with
  | nil => exact .nil
  | cons e _ ih => exact .cons (e.same s) ih
theorem RItL.at {K : PySem.W.Frag} {H : Hp} {vs : List V} {os : List (Option Str)} (h : RItL K H vs os) : ∀ {i : Nat} {v : V}, vs[i]? = some v → ∃ o, os[i]? = some o ∧ RIt K H v o := by
  induction h with
  | nil => intro i v e; cases e
  | @cons v0 o0 vs os h0 _ ih =>
    intro i v e
    match i, e with
    | 0, e =>
      cases e
      exact ⟨o0, rfl, h0⟩
    | i + 1, e => exact ih e
theorem RItL.strs {K : PySem.W.Frag} {H : Hp} {vs : List V} {os : List (Option Str)} (h : RItL K H vs os) (a : os.all Option.isSome = true) : ∃ zs : List Str, vs = zs.map V.str := by
  induction h with
  | nil => exact ⟨[], rfl⟩
  | cons h0 _ ih =>
    rw [List.all_cons] at a
    obtain ⟨a1, a2⟩ := He.ba a
    obtain ⟨zs, rfl⟩ := ih a2
    cases h0 with
    | str z => exact ⟨z :: zs, rfl⟩
    | _ => cases a1
theorem RItL.all_in {K : PySem.W.Frag} {H : Hp} {zs : List Str} {os : List (Option Str)} (h : RItL K H (zs.map V.str) os) : os.all Option.isSome = true := by
  induction zs generalizing os with
  | nil => cases h; rfl
  | cons z zs ih =>
    cases h with
    | cons h0 ht =>
      cases h0
      rw [List.all_cons, ih ht]
      rfl
/-- a row, or something that is none; whether it is one of xs -/
inductive RowV (K : PySem.W.Frag) (H : Hp) (xs : List Str) : V → Bool → Prop
  | no {v : V} {T : String} : TyX K H v (.type T) → kitB T "list" = some false → RowV K H xs v false
  | lst {a : Addr} {vs : List V} {os : List (Option Str)} {b : Bool} : H a = some (.lst vs) → vs.length ≤ 60 → RItL K H vs os → (b = true ↔ ∃ zs : List Str, vs = zs.map V.str ∧ zs.Perm xs) → RowV K H xs (.ref a) b
theorem RowV.same {K : PySem.W.Frag} {H H' : Hp} {xs : List Str} {v : V} {b : Bool} (h : RowV K H xs v b) (s : Same H H') : RowV K H' xs v b := by
  cases h with
  | no t n => exact .no (TyX.same t s) n
  | lst h1 h2 h3 h4 => exact .lst (s _ _ h1) h2 (h3.same s) h4
def spIsRow (K : PySem.W.Frag) : Sp := fun vs H Q _ => ∃ (n : Addr) (xs : List Str) (v : V) (b : Bool), vs = [.ref n, v] ∧ SqL K H n (xs.map V.str) ∧ sortedS xs = true ∧ RowV K H xs v b ∧ ∀ H', Same H H' → Q (.bl b) H'
section
variable {P : Program} {w : World} {K : PySem.W.Frag} {mg : Str → Option Value} {base : Heap}
abbrev sIsRow : Stmt := top 16
theorem scIsRow : FnScope ["entries", "value", "name"] ["entries", "value"] (defScope sIsRow) := ⟨rfl, rfl, rfl, by decide +kernel, rfl, by decide +kernel, by decide +kernel⟩
theorem ok_isRow {f : Addr} {fd : FuncData} (F : FnP K "is_row" sIsRow f fd) (L : Lib K mg) (LP : LibP mg) : FnOk P w K mg base CX0 1 f fd ["entries", "value"] (spIsRow K) := by
  refine okN F scIsRow (fun vs H Q E h => ?_) (fun cdv A outer s H vs Q E hr h => ?_)
  · obtain ⟨_, _, _, _, rfl, _⟩ := h
    rfl
  · obtain ⟨n, xs, v, b, rfl, hn, so, hv, k⟩ := h
    have hu := hr.units
    have hu1 : (A.deeper (envOfC "is_row" (defScope sIsRow) s.heap.objs.size f cdv)).units + (0 + 1) < cLine := by omega
    refine ⟨_, pss_cons (ps_if (PW.pt (pw_or (pt_not (pt_val (pe_callB call_isi (by rfl) LP.isi (by decide +kernel) (pa_cons (pv 1) (pa_cons (pe_bltn (v := .ty "list") (by rfl) LP.list (by decide +kernel) rfl) pa_nil)))))
        (pw_or1 (pt_not (pt_val (pe_callB (cr_all rfl) (by rfl) LP.all (by decide +kernel) (pa_cons
          (pe_lc (own := [("name", 2)]) (g := gName 2) (tt := tYes) (te := tCB (rIsi K) (tCons (tVar 2) (tCons (tC (.ty "str")) tNil))) rfl scIsRow.nd (pi_list (pv 1))
            (blkOk_by (N := ["entries", "value", "name"]) (sc := defScope sIsRow) (by decide +kernel)) (fun _ _ _ _ _ => pg_name (i := 2) scIsRow.nd rfl (Or.inl rfl)) (fun _ _ _ _ _ => pts_nil)
            (fun _ _ _ _ _ => pe_callB call_isi (by rfl) LP.isi (by decide +kernel) (pa_cons (pv 2) (pa_cons (pe_bltn (v := .ty "str") (by rfl) LP.str (by decide +kernel) rfl) pa_nil)))) pa_nil))))))) (pss_one (ps_ret pe_bl)) pss_nil)
      (pss_one (ps_ret (pe_cmpR (op_eqW (n := 0) hu1) (pe_callB cr_sortedS (by rfl) LP.sorted (by decide +kernel) (pa_cons (pv 1) pa_nil)) (pv 0) (nomark _)))), ?_⟩
    cases hv with
    | @no _ T ty nk =>
      refine ⟨_, rfl, v, .ty "list", .type T, .type "list", false, rfl, .ty _, ty, kit_ty nk, false, rfl, ?_⟩
      exact k H (Same.refl H)
    | @lst a vs os b hH hl ho hb =>
      refine ⟨_, rfl, .ref a, .ty "list", .type "list", .type "list", true, rfl, .ty _, .base (.lst hH), kit_ty (by decide +kernel), true, rfl, ?_⟩
      refine ⟨_, rfl, a, rfl, ⟨_, SqL.of hH⟩, fun D hD => lc_list (K := K) (a := a) (xs := vs) (fun i H' => H' D = some (.lst (((os.map Option.isSome).take i).map V.bl)) ∧ Same H H') ⟨upd_same, sn hD⟩ (fun i H' _ h => SqL.of (h.2 _ _ hH)) ?_ ?_⟩
      · rintro i y H' hi ⟨q1, q2⟩
        obtain ⟨o, ho1, r⟩ := ho.at hi
        obtain ⟨T, ty1, kb1⟩ := (r.same q2).ty
        refine ⟨rfl, _, rfl, y, .ty "str", .type T, .type "str", o.isSome, rfl, .ty _, ty1, kit_ty kb1, _, q1, ?_, ?_, fun c o' e => ?_⟩
        · refine small1000 ?_
          rw [List.length_map]
          have := List.length_take_le' i (os.map Option.isSome)
          rw [List.length_map] at this
          have := ho.len
          omega
        · have e2 : (os.map Option.isSome)[i]? = some o.isSome := by rw [List.getElem?_map, ho1]; rfl
          rw [upd_same, List.take_succ, e2, List.map_append]
          rfl
        · rw [upd_ne (ne_of_none e hD)]
          exact q2 _ _ e
      · rintro H' ⟨q1, q2⟩
        rw [ho.len, List.take_of_length_le (by rw [List.length_map]; exact Nat.le_refl _)] at q1
        refine ⟨D, os.map Option.isSome, rfl, SqL.of q1, _, rfl, ?_⟩
        have e0 : (os.map Option.isSome).all id = os.all Option.isSome := by rw [List.all_map]; rfl
        rw [e0]
        cases hall : os.all Option.isSome with
        | false =>
          have bf : b = false := by
            rw [Bool.eq_false_iff]
            intro bt
            obtain ⟨zs, rfl, p⟩ := hb.mp bt
            rw [ho.all_in] at hall
            cases hall
          rw [bf] at k
          exact k H' q2
        | true =>
          obtain ⟨zs, rfl⟩ := ho.strs hall
          rw [List.length_map] at hl
          refine ⟨_, rfl, a, zs, rfl, SqL.of (q2 _ _ hH), by omega, fun ys D2 p2 so2 n2 => ?_⟩
          have s3 : Same H' (upd H' D2 (.lst (ys.map V.str))) := sn n2
          refine ⟨_, rfl, _, lists_strs (SqL.of upd_same) ((q2.trans s3).seq hn), ?_⟩
          have e : decide (ys = xs) = b := by
            cases hbb : b with
            | true =>
              obtain ⟨zs2, e3, p3⟩ := hb.mp hbb
              rw [map_str_inj e3] at p2
              exact decide_eq_true (sorted_uniq so2 so (p2.trans p3))
            | false =>
              refine decide_eq_false fun e3 => ?_
              rw [hb.mpr ⟨zs, rfl, (e3 ▸ p2).symm⟩] at hbb
              cases hbb
          rw [e]
          exact k _ (q2.trans s3)
end
end K24

set_option maxHeartbeats 8000000
namespace K24
open PySem PySem.Spec PyProof.Rows L2 G1
abbrev ga (K : PySem.W.Frag) (x : Str) : Addr := He.ga K x
def iPs : List Str := ["self", "value"]
/-- an error's class and its __init__ -/
structure ErrC (P : Program) (w : World) (K : PySem.W.Frag) (mg : Str → Option Value) (base : Heap) (x : Str) : Prop where
  ex : ∃ (fI : Addr) (fd : FuncData), EC K (ga K x) fI ∧ FnOk P w K mg base CX0 1 fI fd iPs (spE (ga K x)) ∧ Binds K fd iPs []
  gl : mg x = some (.ref (ga K x))
/-- raise x(e): what is asked -/
def tRaise (C : Addr) (W : WX) (te : TE) : TS := fun _ σ H => te σ H fun v H1 => ∀ (d : Addr) (H' : Hp), Same H1 H' → H1 d = none → H' d = some (.xd [("value", v)]) → W (.ref C) (some d) σ H'
/-- the way on may be made weaker -/
def tClo (te : TE) : TE := fun σ H Q => ∃ Q0 : VK, te σ H Q0 ∧ ∀ v H1, Q0 v H1 → Q v H1
theorem pe_clo {X : Cx} {e : Expr} {te : TE} (he : PE X e te) : PE X e (tClo te) :=
  ⟨fun pins s σ H Q I h => by
    obtain ⟨Q0, h0, k⟩ := h
    exact thn (he.run pins s σ H Q0 I h0) fun u s1 z => by
      obtain ⟨v, H1, I1, r, q⟩ := z
      exact ⟨v, H1, I1, r, k v H1 q⟩⟩
theorem ps_raiseV {X : Cx} {W : WX} {x : Str} {e : Expr} {te : TE} {p pos pos2 : Pos} (hc : X.calm = true) (R : ErrC X.prog X.w X.K X.mg X.base x) (hr : Room 2 X.A) (tk : Takes X W) (hg : Gl X x) (he : PE X e te)
    (hdb : (x == ("__debug__" : Str)) = false := by decide) (h1 : starEach (e :: []) X.env = (false, eval e X.env) :: starEach [] X.env := by rfl) (hpl : (backTo pos (starEach [] X.env)).any (·.1) = false := by rfl) :
    PS X (.Raise (some (.Call (.Name x p) [e] [] pos)) none pos2) (tRaise (ga X.K x) W te) := by
  obtain ⟨fI, fd, E, F, b⟩ := R.ex
  have q := ps_raise (W := W) (pos := pos2) hc tk (pmk_oex (p := p) (pos := pos) E.t E.iC E.tI F hr b .nil pass0 hg R.gl (pa_cons (pe_clo he) pa_nil h1) hdb h1 hpl)
  refine ⟨fun pins s σ H D I h => q.run pins s σ H D I ⟨_, h, fun v H1 k => ⟨(by decide : 1 ≤ 1000), fun a na => ?_⟩⟩⟩
  refine ⟨a, v, rfl, upd_same, fun d nd nda => ⟨rfl, d, [("value", v)], upd_same, ?_, ?_, ?_⟩⟩
  · rw [upd_ne nda]
    exact upd_same
  · rw [upd_ne nda] at nd
    exact nd
  · refine k d _ (fun c o e => ?_) ?_ upd_same
    · have nca : c ≠ a := ne_of_none e na
      have ncd : c ≠ d := fun z => by
        rw [z] at e
        rw [upd_ne nda, e] at nd
        cases nd
      rw [upd_ne ncd, del_ne nca, upd_ne nca, upd_ne ncd, upd_ne nca]
      exact e
    · rw [upd_ne nda] at nd
      exact nd
def spChkE (K : PySem.W.Frag) : Sp := fun vs H Q E => ∃ (v : V) (b : Bool), vs = [v] ∧ Unl K H v b ∧ (b = true → ∀ H', Same H H' → Q .non H') ∧
  (b = false → ∀ (d : Addr) (H' : Hp), Same H H' → H d = none → H' d = some (.xd [("value", v)]) → E (.ref (ga K "InvalidEntries")) (some d) H')
section
variable {P : Program} {w : World} {K : PySem.W.Frag} {mg : Str → Option Value} {base : Heap}
abbrev sChkE : Stmt := top 18
theorem scChkE : FnScope ["entries"] ["entries"] (defScope sChkE) := ⟨rfl, rfl, rfl, by decide +kernel, rfl, by decide +kernel, by decide +kernel⟩
theorem ok_chkE {f fU : Addr} {fd fdU : FuncData} (F : FnP K "check_entries" sChkE f fd) (R : ErrC P w K mg base "InvalidEntries") (FU : FnP K "are_unlike_names" sUnlike fU fdU) (gU : mg "are_unlike_names" = some (.ref fU))
    (GU : FnOk P w K mg base CX0 2 fU fdU ["value"] (spUnlike K)) : FnOk P w K mg base (L2.CX P w) 3 f fd ["entries"] (spChkE K) := by
  have bU : Binds K fdU ["value"] [] := FU.bindsN fun _ _ _ _ _ _ us hl => match us, hl with | [_], _ => rfl
  refine F.ok scChkE (fun vs H Q E h => ?_) (fun cdv A outer s H vs Q E hr h => ?_)
  · obtain ⟨_, _, rfl, _⟩ := h
    rfl
  · obtain ⟨v, b, rfl, hv, k1, k2⟩ := h
    refine ⟨_, pss_one (ps_if (pt_not (pt_val (pe_call GU hr (by rfl) gU FU.kp bU .nil pass0 (pa_cons (pv 0) pa_nil)))) (pss_one (ps_raiseV rfl R hr (takes_of rfl rfl rfl rfl) (by rfl) (pv 0))) pss_nil), ?_⟩
    refine ⟨_, rfl, v, b, rfl, hv, fun H1 s1 => ⟨_, rfl, ?_⟩⟩
    cases b with
    | true => exact k1 rfl H1 s1
    | false => exact ⟨_, rfl, fun d H' s2 nd hd => k2 rfl d H' (s1.trans s2) (s1.free nd) hd⟩
end
end K24

set_option maxHeartbeats 8000000
namespace K24
open PySem PySem.Spec PyProof.Rows L2 G1
inductive RowVL (K : PySem.W.Frag) (H : Hp) (xs : List Str) : List V → List Bool → Prop
  | nil : RowVL K H xs [] []
  | cons {v : V} {b : Bool} {vs : List V} {bs : List Bool} : RowV K H xs v b → RowVL K H xs vs bs → RowVL K H xs (v :: vs) (b :: bs)
theorem RowVL.len {K : PySem.W.Frag} {H : Hp} {xs : List Str} {vs : List V} {bs : List Bool} (h : RowVL K H xs vs bs) : vs.length = bs.length := by
  induction h with
  | nil => rfl
  | cons _ _ ih => rw [List.length_cons, List.length_cons, ih]
theorem RowVL.same {K : PySem.W.Frag} {H H' : Hp} {xs : List Str} {vs : List V} {bs : List Bool} (h : RowVL K H xs vs bs) (s : Same H H') : RowVL K H' xs vs bs := by
  induction h with
  | nil => exact .nil
  | cons e _ ih => exact .cons (e.same s) ih
theorem RowVL.at {K : PySem.W.Frag} {H : Hp} {xs : List Str} {vs : List V} {bs : List Bool} (h : RowVL K H xs vs bs) : ∀ {i : Nat} {v : V}, vs[i]? = some v → ∃ b, bs[i]? = some b ∧ RowV K H xs v b := by
  induction h with
  | nil => intro i v e; cases e
  | @cons v0 b0 vs bs h0 _ ih =>
    intro i v e
    match i, e with
    | 0, e =>
      cases e
      exact ⟨b0, rfl, h0⟩
    | i + 1, e => exact ih e
/-- a list of rows of xs, or something that is none -/
inductive RowsV (K : PySem.W.Frag) (H : Hp) (xs : List Str) : V → Bool → Prop
  | no {v : V} {T : String} : TyX K H v (.type T) → kitB T "list" = some false → RowsV K H xs v false
  | lst {a : Addr} {vs : List V} {bs : List Bool} : H a = some (.lst vs) → vs.length ≤ 60 → RowVL K H xs vs bs → RowsV K H xs (.ref a) (!vs.isEmpty && bs.all id)
theorem RowsV.same {K : PySem.W.Frag} {H H' : Hp} {xs : List Str} {v : V} {b : Bool} (h : RowsV K H xs v b) (s : Same H H') : RowsV K H' xs v b := by
  cases h with
  | no t n => exact .no (TyX.same t s) n
  | lst h1 h2 h3 => exact .lst (s _ _ h1) h2 (h3.same s)
def spChkR (K : PySem.W.Frag) : Sp := fun vs H Q E => ∃ (n : Addr) (xs : List Str) (v : V) (b : Bool), vs = [.ref n, v] ∧ SqL K H n (xs.map V.str) ∧ sortedS xs = true ∧ RowsV K H xs v b ∧ (b = true → ∀ H', Same H H' → Q .non H') ∧
  (b = false → ∀ (d : Addr) (H' : Hp), Same H H' → H d = none → H' d = some (.xd [("value", v)]) → E (.ref (ga K "InvalidRows")) (some d) H')
/-- whether all are rows -/
def spAreR (K : PySem.W.Frag) : Sp := fun vs H Q _ => ∃ (n : Addr) (xs : List Str) (v : V) (b : Bool), vs = [.ref n, v] ∧ SqL K H n (xs.map V.str) ∧ sortedS xs = true ∧ RowsV K H xs v b ∧
  ∀ (r : Bool) (H' : Hp), Same H H' → (r = false → b = false) → (r = true → ∃ (a : Addr) (vs : List V), v = .ref a ∧ H a = some (.lst vs) ∧ b = !vs.isEmpty) → Q (.bl r) H'
section
variable {P : Program} {w : World} {K : PySem.W.Frag} {mg : Str → Option Value} {base : Heap}
abbrev sAreR : Stmt := top 17
theorem scAreR : FnScope ["entries", "value", "row"] ["entries", "value"] (defScope sAreR) := ⟨rfl, rfl, rfl, by decide +kernel, rfl, by decide +kernel, by decide +kernel⟩
theorem ok_areR {f fR : Addr} {fd fdR : FuncData} (F : FnP K "are_rows" sAreR f fd) (L : Lib K mg) (LP : LibP mg) (FR : FnP K "is_row" sIsRow fR fdR) (gR : mg "is_row" = some (.ref fR))
    (GR : FnOk P w K mg base CX0 1 fR fdR ["entries", "value"] (spIsRow K)) : FnOk P w K mg base CX0 2 f fd ["entries", "value"] (spAreR K) := by
  have bR : Binds K fdR ["entries", "value"] [] := FR.bindsN fun _ _ _ _ _ _ us hl => match us, hl with | [_, _], _ => rfl
  refine okN F scAreR (fun vs H Q E h => ?_) (fun cdv A outer s H vs Q E hr h => ?_)
  · obtain ⟨_, _, _, _, rfl, _⟩ := h
    rfl
  · obtain ⟨n, xs, v, b, rfl, hn, so, hv, k⟩ := h
    refine ⟨_, pss_one (ps_ret (pe_and (pe_callB call_isi (by rfl) LP.isi (by decide +kernel) (pa_cons (pv 1) (pa_cons (pe_bltn (v := .ty "list") (by rfl) LP.list (by decide +kernel) rfl) pa_nil)))
        (pe_one (pe_callB (cr_all rfl) (by rfl) LP.all (by decide +kernel) (pa_cons
          (pe_lc (own := [("row", 2)]) (g := gName 2) (tt := tYes) (te := tCall (spIsRow K) [] E0 (tCons (tVar 0) (tCons (tVar 2) tNil))) rfl scAreR.nd (pi_list (pv 1))
            (blkOk_by (N := ["entries", "value", "row"]) (sc := defScope sAreR) (by decide +kernel)) (fun _ _ _ _ _ => pg_name (i := 2) scAreR.nd rfl (Or.inl rfl)) (fun _ _ _ _ _ => pts_nil)
            (fun _ _ _ _ _ => pe_call GR hr (by rfl) gR FR.kp bR .nil pass0 (pa_cons (pv 0) (pa_cons (pv 2) pa_nil)))) pa_nil))))), ?_⟩
    cases hv with
    | @no _ T ty nk =>
      refine ⟨_, rfl, v, .ty "list", .type T, .type "list", false, rfl, .ty _, ty, kit_ty nk, false, rfl, iteF ?_⟩
      exact k false H (Same.refl H) (fun _ => rfl) fun q => nomatch q
    | @lst a vs bs hH hl hb =>
      refine ⟨_, rfl, .ref a, .ty "list", .type "list", .type "list", true, rfl, .ty _, .base (.lst hH), kit_ty (by decide +kernel), true, rfl, iteT ?_⟩
      refine ⟨_, rfl, a, rfl, ⟨_, SqL.of hH⟩, fun D hD => lc_list (K := K) (a := a) (xs := vs) (fun i H' => H' D = some (.lst ((bs.take i).map V.bl)) ∧ Same H H') ⟨upd_same, sn hD⟩ (fun i H' _ h => SqL.of (h.2 _ _ hH)) ?_ ?_⟩
      · rintro i y H' hi ⟨q1, q2⟩
        obtain ⟨b1, hb1, nb⟩ := hb.at hi
        refine ⟨rfl, _, rfl, _, rfl, n, xs, y, b1, rfl, q2.seq hn, so, nb.same q2, fun H2 s2 => ⟨_, s2 _ _ q1, ?_, ?_, fun c o e => ?_⟩⟩
        · refine small1000 ?_
          rw [List.length_map]
          have := List.length_take_le' i bs
          have := hb.len
          omega
        · rw [upd_same, List.take_succ, hb1, List.map_append]
          rfl
        · rw [upd_ne (ne_of_none e hD)]
          exact s2 _ _ (q2 _ _ e)
      · rintro H' ⟨q1, q2⟩
        rw [hb.len, List.take_length] at q1
        refine ⟨D, bs, rfl, SqL.of q1, ?_⟩
        refine k _ H' q2 (fun q => ?_) (fun q => ⟨a, vs, rfl, hH, ?_⟩)
        · rw [q, Bool.and_false]
        · rw [q, Bool.and_true]
abbrev sChkR : Stmt := top 19
theorem scChkR : FnScope ["entries", "rows"] ["entries", "rows"] (defScope sChkR) := ⟨rfl, rfl, rfl, by decide +kernel, rfl, by decide +kernel, by decide +kernel⟩
theorem ok_chkR {f fA : Addr} {fd fdA : FuncData} (F : FnP K "check_rows" sChkR f fd) (R : ErrC P w K mg base "InvalidRows") (FA : FnP K "are_rows" sAreR fA fdA) (gA : mg "are_rows" = some (.ref fA))
    (GA : FnOk P w K mg base CX0 2 fA fdA ["entries", "value"] (spAreR K)) : FnOk P w K mg base (L2.CX P w) 3 f fd ["entries", "rows"] (spChkR K) := by
  have bA : Binds K fdA ["entries", "value"] [] := FA.bindsN fun _ _ _ _ _ _ us hl => match us, hl with | [_, _], _ => rfl
  refine F.ok scChkR (fun vs H Q E h => ?_) (fun cdv A outer s H vs Q E hr h => ?_)
  · obtain ⟨_, _, _, _, rfl, _⟩ := h
    rfl
  · obtain ⟨n, xs, v, b, rfl, hn, so, hv, k1, k2⟩ := h
    refine ⟨_, pss_one (ps_if (PW.pt (pw_or (pt_not (pt_val (pe_call GA hr (by rfl) gA FA.kp bA .nil pass0 (pa_cons (pv 0) (pa_cons (pv 1) pa_nil)))))
        (pw_or1 (pt_not (pt_truth (pv 1) (by intro _; rfl)))))) (pss_one (ps_raiseV rfl R hr (takes_of rfl rfl rfl rfl) (by rfl) (pv 1))) pss_nil), ?_⟩
    refine ⟨_, rfl, _, rfl, n, xs, v, b, rfl, hn, so, hv, fun r H1 s1 rf rt => ?_⟩
    cases r with
    | false => exact ⟨_, rfl, _, rfl, fun d H' s2 nd hd => k2 (rf rfl) d H' (s1.trans s2) (s1.free nd) hd⟩
    | true =>
      obtain ⟨a, vs, rfl, hH, eb⟩ := rt rfl
      refine ⟨_, rfl, _, rfl, !vs.isEmpty, .inl ⟨vs, SqL.of (s1 _ _ hH), rfl⟩, ?_⟩
      cases vs with
      | nil => exact ⟨_, rfl, fun d H' s2 nd hd => k2 eb d H' (s1.trans s2) (s1.free nd) hd⟩
      | cons x0 xs0 => exact k1 eb H1 s1
end
end K24

set_option maxHeartbeats 4000000
namespace G1
open PySem PySem.Spec PyProof.Rows L2
section
variable {X : Cx} {CX : CXT} {k : Nat} {C f : Addr} {fd : FuncData} {ps : List Str} {sp : Sp} {E : L2.St → XK} {x : Str} {p pos : Pos} {e : Expr} {es : List Expr} {t : TA}
/-- C(e, ..) whose __init__ may raise into a suite here -/
def tMakeS (C : Addr) (sp : Sp) (E : L2.St → XK) (t : TA) : TE := fun σ H Q => t σ H fun vs H1 => ∀ a dx, H1 a = none → H1 dx = none → dx ≠ a → sp (.ref a :: vs) (upd (upd H1 dx (.own a)) a (.ins C dx [])) (fun v H2 => v = .non ∧ Q (.ref a) H2) (E σ)
theorem pe_makeS (M : Mk X.K C f) (F : FnOk X.prog X.w X.K X.mg X.base CX k f fd ps sp) (hr : Room (k + 1) X.A) (hg : Gl X x) (hm : X.mg x = some (.ref C)) (hb : Binds X.K fd ps []) (hx : ∀ σ, PassesAt CX X σ (E σ))
    (ha : PA X (e :: es) t) (hdb : (x == ("__debug__" : Str)) = false := by decide) (he : starEach (e :: es) X.env = (false, eval e X.env) :: starEach es X.env := by rfl) (hpl : (backTo pos (starEach es X.env)).any (·.1) = false := by rfl) :
    PE X (.Call (.Name x p) (e :: es) [] pos) (tMakeS C sp E t) := by
  refine ⟨fun pins s0 σ H0 Q I0 h => wpAny_Call_Name_kw (ld_glob I0 hg hm ?_ hdb)⟩
  refine PySem.W.callWith_K (h₀ := X.base) I0.ok.mod.kin M.kp (thn (ha.run pos pins s0 σ H0 _ I0 h) fun us s ⟨vs, H, I, r, q⟩ => ⟨I.kIn, ?_⟩) he hpl
  have q1 := q (s.heap.objs.size + 1) s.heap.objs.size (I.hok.fresh (Nat.le_succ _)) (I.hok.fresh (Nat.le_refl _)) (Nat.ne_of_lt (Nat.lt_succ_self _))
  have J := Inv.made (C := C) I
  have r1 : Vals (V.ref (s.heap.objs.size + 1) :: vs) (Value.ref (s.heap.objs.size + 1) :: us) := .cons rfl r
  have len : (Value.ref (s.heap.objs.size + 1) :: us).length = ps.length := r1.length.symm.trans (F.len _ _ _ _ q1)
  have b := hb _ (Value.ref (s.heap.objs.size + 1) :: us) J.kIn (by rw [List.append_nil]; exact len)
  rw [List.append_nil] at b
  refine wpAny_call (make_map (f := f) I.kIn M.makes M.init (beq_iff_eq.mp M.fn) (codeAny_mono (F.run _ X.stack _ _ ⟨Value.ref (s.heap.objs.size + 1) :: us, []⟩ (Value.ref (s.heap.objs.size + 1) :: us) _ _ (E σ) (hr.make C us []) (J.env0.make C us []) b r1 q1) fun res s' z => ?_))
  match res, z with
  | .error u, z => exact hx σ pins _ _ u s' J z
  | .ok (.ret u), z =>
    obtain ⟨v, H', I', rv, ev, q3⟩ := J.after z
    subst ev
    exact ⟨rv, ⟨.ref (s.heap.objs.size + 1), H', I', rfl, q3⟩⟩
end
end G1

set_option maxHeartbeats 8000000
namespace K24
open PySem PySem.Spec PyProof.Rows L2 G1
def methS (j : Nat) : Stmt := match top 23 with
  | .ClassDef _ _ _ body .. => body.getD j (.Pass ⟨0, 0, 0, 0⟩)
  | s => s
abbrev FnM (K : PySem.W.Frag) (x q : Str) (st : Stmt) (f : Addr) (fd : FuncData) : Prop := FunD K x q (defArgs st) (defBody st) (defScope st) [] [] f fd
/-- the class Panel -/
structure PanC (K : PySem.W.Frag) (C : Addr) : Prop where
  cls : Cls K C
  nE : NoAttr K C "_entries"
  nR : NoAttr K C "_rows"
theorem RowsAt.at {H : Hp} {as : List Addr} {rs : List (List Str)} (h : RowsAt H as rs) : ∀ {i : Nat} {c : Addr}, as[i]? = some c → ∃ ws, rs[i]? = some ws ∧ H c = some (.lst (ws.map V.str)) := by
  induction h with
  | nil => intro i c e; cases e
  | @cons a0 r0 as rs h0 _ ih =>
    intro i c e
    match i, e with
    | 0, e =>
      cases e
      exact ⟨r0, rfl, h0⟩
    | i + 1, e => exact ih e
theorem rows_of_all {K : PySem.W.Frag} {H : Hp} {xs : List Str} {vs : List V} {bs : List Bool} (h : RowVL K H xs vs bs) (a : bs.all id = true) : ∃ (as : List Addr) (rs : List (List Str)), vs = as.map V.ref ∧ RowsAt H as rs ∧ ∀ r ∈ rs, r.Perm xs := by
  induction h with
  | nil => exact ⟨[], [], rfl, .nil, fun r hr => nomatch hr⟩
  | cons h0 _ ih =>
    rw [List.all_cons] at a
    obtain ⟨a1, a2⟩ := He.ba a
    obtain ⟨as, rs, rfl, h1, h2⟩ := ih a2
    cases h0 with
    | no _ _ => cases a1
    | @lst c ws os b e1 e2 e3 e4 =>
      obtain ⟨zs, rfl, p⟩ := e4.mp a1
      exact ⟨c :: as, zs :: rs, rfl, .cons e1 h1, fun r hr => by
        rcases List.mem_cons.mp hr with rfl | hr
        · exact p
        · exact h2 r hr⟩
def spInit (K : PySem.W.Frag) (C : Addr) : Sp := fun vs H Q E => ∃ (a dx : Addr) (ve vr : V) (b : Bool), vs = [.ref a, ve, vr] ∧ H a = some (.ins C dx []) ∧ Unl K H ve b ∧
  (b = false → ∀ (d : Addr) (H' : Hp), Same H H' → H d = none → H' d = some (.xd [("value", ve)]) → E (.ref (ga K "InvalidEntries")) (some d) H') ∧
  (b = true → ∃ (e : Addr) (zs : List Str), ve = .ref e ∧ SqL K H e (zs.map V.str) ∧ zs.length < 64 ∧ ∀ xs : List Str, xs.Perm zs → sortedS xs = true → ∃ b2, RowsV K H xs vr b2 ∧
    (b2 = false → ∀ (d : Addr) (H' : Hp), Same H H' → H d = none → H' d = some (.xd [("value", vr)]) → E (.ref (ga K "InvalidRows")) (some d) H') ∧
    (b2 = true → ∀ (r : Addr) (as : List Addr) (rs : List (List Str)), vr = .ref r → H r = some (.lst (as.map V.ref)) → RowsAt H as rs → (∀ y ∈ rs, y.Perm xs) →
      ∀ (fs : List (Str × V)) (N R : Addr) (cs : List Addr) (H' : Hp), H' a = some (.ins C dx fs) → fs.lookup ("_entries" : Str) = some (V.ref N) → fs.lookup ("_rows" : Str) = some (V.ref R) → H' N = some (.lst (xs.map V.str)) → H' R = some (.lst (cs.map V.ref)) → RowsAt H' cs rs →
        H N = none → H R = none → (∀ c ∈ cs, H c = none) → fs.lookup ("entries" : Str) = none → (fs.lookup ("rows" : Str) = none ∧ fs.lookup ("struck" : Str) = none ∧ fs.lookup ("with_row" : Str) = none ∧ fs.lookup ("without_row" : Str) = none ∧ fs.lookup ("renamed" : Str) = none) → But a H H' → Q .non H'))
section
variable {P : Program} {w : World} {K : PySem.W.Frag} {mg : Str → Option Value} {base : Heap}
abbrev sInit : Stmt := methS 0
theorem scInit : FnScope ["self", "entries", "rows", "names", "row"] ["self", "entries", "rows"] (defScope sInit) := ⟨rfl, rfl, rfl, by decide +kernel, rfl, by decide +kernel, by decide +kernel⟩
theorem ok_init {f fE fR C : Addr} {fd fdE fdR : FuncData} (F : FnM K "__init__" "Panel.__init__" sInit f fd) (L : Lib K mg) (LP : LibP mg) (PC : PanC K C)
    (FE : FnP K "check_entries" sChkE fE fdE) (gE : mg "check_entries" = some (.ref fE)) (GE : FnOk P w K mg base (L2.CX P w) 3 fE fdE ["entries"] (spChkE K))
    (FR : FnP K "check_rows" sChkR fR fdR) (gR : mg "check_rows" = some (.ref fR)) (GR : FnOk P w K mg base (L2.CX P w) 3 fR fdR ["entries", "rows"] (spChkR K)) : FnOk P w K mg base (L2.CX P w) 4 f fd ["self", "entries", "rows"] (spInit K C) := by
  have bE : Binds K fdE ["entries"] [] := FE.bindsN fun _ _ _ _ _ _ us hl => match us, hl with | [_], _ => rfl
  have bR : Binds K fdR ["entries", "rows"] [] := FR.bindsN fun _ _ _ _ _ _ us hl => match us, hl with | [_, _], _ => rfl
  refine F.ok scInit (fun vs H Q E h => ?_) (fun cdv A outer s H vs Q E hr h => ?_)
  · obtain ⟨_, _, _, _, _, rfl, _⟩ := h
    rfl
  · obtain ⟨a, dx, ve, vr, b, rfl, ha, hv, k1, k2⟩ := h
    have tk : Takes (cxOf (L2.CX P w) P w K mg base ["self", "entries", "rows", "names", "row"] "Panel.__init__" (defScope sInit) f cdv A outer s H E) (fun cls d _ H' => E cls d H') := takes_of rfl rfl rfl rfl
    refine ⟨_, pss_cons (ps_expr (pe_callS GE hr (by rfl) gE FE.kp bE (fun σ => passAt tk σ) (pa_cons (pv 1) pa_nil)))
      (pss_cons (ps_set (i := 3) scInit.nd rfl (Or.inl rfl) (pe_callB cr_sortedS (by rfl) LP.sorted (by decide +kernel) (pa_cons (pv 1) pa_nil)))
      (pss_cons (ps_expr (pe_callS GR hr (by rfl) gR FR.kp bR (fun σ => passAt tk σ) (pa_cons (pv 3) (pa_cons (pv 2) pa_nil))))
      (pss_cons (ps_fld (pv 0) (pv 3) rfl)
      (pss_one (ps_fld (pv 0) (pe_lc (own := [("row", 4)]) (g := gName 4) (tt := tYes) (te := tCB (fun xs H Q => ∃ p ys, xs = [V.ref p] ∧ (SqL K H p ys ∨ SqT K H p ys) ∧ ∀ l, H l = none → Q (.ref l) (upd H l (.lst ys))) (tCons (tVar 4) tNil)) rfl scInit.nd (pi_list (pv 2))
            (blkOk_by (N := ["self", "entries", "rows", "names", "row"]) (sc := defScope sInit) (by decide +kernel)) (fun _ _ _ _ _ => pg_name (i := 4) scInit.nd rfl (Or.inl rfl)) (fun _ _ _ _ _ => pts_nil)
            (fun _ _ _ _ _ => pe_callTy call_list_of (by rfl) LP.list (by decide +kernel) (pa_cons (pv 4) pa_nil))) rfl))))), ?_⟩
    refine ⟨_, rfl, ve, b, rfl, hv, fun hb H1 s1 => ?_, fun hb d H' s2 nd hd => k1 hb d H' s2 nd hd⟩
    obtain ⟨e, zs, rfl, hS, hz, k3⟩ := k2 hb
    refine ⟨_, rfl, e, zs, rfl, s1.seq hS, hz, fun xs N perm so nN => ?_⟩
    have s2 : Same H1 (upd H1 N (.lst (xs.map V.str))) := sn nN
    have fN : upd H1 N (.lst (xs.map V.str)) N = some (.lst (xs.map V.str)) := upd_same
    generalize upd H1 N (.lst (xs.map V.str)) = H2 at s2 fN ⊢
    have nNH : H N = none := s1.free nN
    have s12 := s1.trans s2
    obtain ⟨b2, hR, kf, kt⟩ := k3 xs perm so
    refine ⟨_, rfl, _, rfl, N, xs, vr, b2, rfl, SqL.of fN, so, hR.same s12, fun hb2 H3 s3 => ?_, fun hb2 d H' s4 nd hd => kf hb2 d H' (s12.trans s4) (s12.free nd) hd⟩
    have s13 := s12.trans s3
    have ha3 := s13 _ _ ha
    refine ⟨_, rfl, _, rfl, a, C, dx, [], rfl, ha3, PC.cls, PC.nE, (show 0 < 1000 by decide), ?_⟩
    have nNa : N ≠ a := fun q => by
      rw [q, ha] at nNH
      cases nNH
    have fN4 : upd H3 a (.ins C dx (putF "_entries" (.ref N) [])) N = some (.lst (xs.map V.str)) := by
      rw [upd_ne nNa]
      exact s3 _ _ fN
    have fa4 : upd H3 a (.ins C dx (putF "_entries" (.ref N) [])) a = some (.ins C dx (putF "_entries" (.ref N) [])) := upd_same
    have b4 : But a H (upd H3 a (.ins C dx (putF "_entries" (.ref N) []))) := (But.same s13).trans But.upd
    generalize upd H3 a (.ins C dx (putF "_entries" (.ref N) [])) = H4 at fN4 fa4 b4 ⊢
    cases hR with
    | no _ _ => cases hb2
    | @lst r vs bs e1 e2 e3 =>
      obtain ⟨_, hall⟩ := He.ba hb2
      obtain ⟨as, rs, rfl, hra, hrp⟩ := rows_of_all e3 hall
      have nra : r ≠ a := fun q => by
        rw [q, ha] at e1
        cases e1
      have nas : ∀ c ∈ as, c ≠ a := fun c hc q => by
        obtain ⟨y, _, e⟩ := hra.strs hc
        rw [q, ha] at e
        cases e
      have f4 := b4 _ _ nra e1
      have r4 : RowsAt H4 as rs := hra.keep fun c hc o e => b4 c o (nas c hc) e
      have kk := kt hb2 r as rs rfl e1 hra hrp
      refine ⟨_, rfl, r, rfl, ⟨_, SqL.of f4⟩, fun D hD => lc_list (K := K) (a := r) (xs := as.map V.ref) (fun i H' => ∃ cs : List Addr, H' D = some (.lst (cs.map V.ref)) ∧ RowsAt H' cs (rs.take i) ∧ (∀ c ∈ cs, H4 c = none ∧ c ≠ D) ∧ Same H4 H') ?_ (fun i H' _ h => by obtain ⟨_, _, _, _, h⟩ := h; exact SqL.of (h _ _ f4)) ?_ ?_⟩
      · exact ⟨[], upd_same, .nil, (fun c hc => nomatch hc), sn hD⟩
      · rintro i y H' hi ⟨cs, q1, q2, q3, q4⟩
        rw [List.getElem?_map] at hi
        obtain ⟨c, hc, rfl⟩ := Option.map_eq_some_iff.mp hi
        obtain ⟨ws, hw1, hw2⟩ := r4.at hc
        refine ⟨rfl, _, rfl, c, ws.map V.str, rfl, .inl (SqL.of (q4 _ _ hw2)), fun l nl => ?_⟩
        have s5 : Same H' (upd H' l (.lst (ws.map V.str))) := sn nl
        have fl : upd H' l (.lst (ws.map V.str)) l = some (.lst (ws.map V.str)) := upd_same
        generalize upd H' l (.lst (ws.map V.str)) = H5 at s5 fl ⊢
        have nlD : l ≠ D := fun q => by
          rw [q, q1] at nl
          cases nl
        refine ⟨cs.map V.ref, s5 _ _ q1, ?_, cs ++ [l], by rw [upd_same, List.map_append]; rfl, ?_, ?_, fun b o e => ?_⟩
        · refine small1000 ?_
          rw [List.length_map, q2.len]
          have := List.length_take_le' i rs
          have := hra.len
          rw [List.length_map] at e2
          omega
        · have tk2 : rs.take (i + 1) = rs.take i ++ [ws] := by rw [List.take_succ, hw1]; rfl
          rw [tk2]
          refine RowsAt.snoc ((q2.same s5).keep fun x hx o e => ?_) ?_
          · rw [upd_ne (q3 x hx).2]
            exact e
          · rw [upd_ne nlD]
            exact fl
        · intro x hx
          rcases List.mem_append.mp hx with hx | hx
          · exact q3 x hx
          · rw [List.mem_singleton.mp hx]
            exact ⟨q4.free nl, nlD⟩
        · rw [upd_ne (ne_of_none e hD)]
          exact s5 _ _ (q4 _ _ e)
      · rintro H' ⟨cs, q1, q2, q3, q4⟩
        have lr : (as.map V.ref).length = rs.length := by rw [List.length_map, hra.len]
        rw [lr, List.take_length] at q2
        have fa5 := q4 _ _ fa4
        refine ⟨_, rfl, a, C, dx, _, rfl, fa5, PC.cls, PC.nR, (show 1 < 1000 by decide), ?_⟩
        have nDa : D ≠ a := fun q => by
          rw [q, fa4] at hD
          cases hD
        have nDH : H D = none := by
          cases e : H D with
          | none => rfl
          | some o =>
            rw [b4 _ _ nDa e] at hD
            cases hD
        have ncs : ∀ c ∈ cs, c ≠ a := fun c hc q => by
          obtain ⟨y, _, e⟩ := q2.strs hc
          rw [q, fa5] at e
          cases e
        refine kk (putF "_rows" (.ref D) (putF "_entries" (.ref N) [])) N D cs _ upd_same rfl rfl ?_ ?_ (q2.keep fun c hc o e => by rw [upd_ne (ncs c hc)]; exact e) nNH nDH (fun c hc => ?_) rfl ⟨rfl, rfl, rfl, rfl, rfl⟩ ((b4.trans (But.same q4)).trans But.upd)
        · rw [upd_ne nNa]
          exact q4 _ _ fN4
        · rw [upd_ne nDa]
          exact q1
        · cases e : H c with
          | none => rfl
          | some o =>
            have := (q3 c hc).1
            rw [b4 _ _ (ncs c hc) e] at this
            cases this
end
end K24

set_option maxHeartbeats 8000000
namespace K24
open PySem PySem.Spec PyProof.Rows L2 G1
/-- lists of rows -/
theorem lists_rows {K : PySem.W.Frag} {H : Hp} {a c : Addr} {as cs : List Addr} {rs ts : List (List Str)} (ha : H a = some (.lst (as.map V.ref))) (hc : H c = some (.lst (cs.map V.ref))) (hr : RowsAt H as rs) (ht : RowsAt H cs ts) :
    Lists2 K H 1 (.ref a) (.ref c) (decide (rs = ts)) := by
  refine ⟨a, c, _, _, rfl, rfl, SqL.of ha, SqL.of hc, ?_⟩
  have l1 := hr.len
  have l2 := ht.len
  by_cases l : rs.length = ts.length
  · refine .inr ⟨by rw [List.length_map, List.length_map]; omega, fun i => decide (rs[i]? = ts[i]?), fun i x y hx hy => ?_, by rw [List.length_map, l1, all_range_eq l]⟩
    rw [List.getElem?_map] at hx hy
    obtain ⟨b, hb, rfl⟩ := Option.map_eq_some_iff.mp hx
    obtain ⟨d, hd, rfl⟩ := Option.map_eq_some_iff.mp hy
    obtain ⟨r, hr1, hr2⟩ := hr.at hb
    obtain ⟨t, ht1, ht2⟩ := ht.at hd
    show EqW K H 1 (.ref b) (.ref d) (decide (rs[i]? = ts[i]?))
    rw [hr1, ht1]
    by_cases q : b = d
    · subst q
      rw [hr2] at ht2
      injection ht2 with e
      injection e with e
      rw [map_str_inj e, decide_eq_true rfl]
      exact .same
    · obtain ⟨_, _, us, ws, e1, e2, s1, s2, z⟩ := lists_strs (K := K) (SqL.of hr2) (SqL.of ht2)
      have de : decide (some r = some t) = decide (r = t) := by
        by_cases w : r = t
        · rw [w, decide_eq_true rfl, decide_eq_true rfl]
        · rw [decide_eq_false w, decide_eq_false fun h => w (Option.some.inj h)]
      rw [de]
      cases e1
      cases e2
      rcases z with ⟨ne, e⟩ | ⟨len, f, hf, e⟩
      · rw [e]
        exact .lens q s1 s2 ne
      · rw [e]
        exact .lists q s1 s2 len hf
  · refine .inl ⟨by rw [List.length_map, List.length_map]; omega, decide_eq_false fun e => l (by rw [e])⟩
/-- a panel of entries xs and rows rs -/
def PanelAt (H : Hp) (C a : Addr) (xs : List Str) (rs : List (List Str)) : Prop := ∃ (dx : Addr) (fs : List (Str × V)) (N R : Addr) (cs : List Addr), H a = some (.ins C dx fs) ∧ fs.lookup ("_entries" : Str) = some (V.ref N) ∧ fs.lookup ("_rows" : Str) = some (V.ref R) ∧
  H N = some (.lst (xs.map V.str)) ∧ H R = some (.lst (cs.map V.ref)) ∧ RowsAt H cs rs
theorem PanelAt.same {H H' : Hp} {C a : Addr} {xs : List Str} {rs : List (List Str)} (h : PanelAt H C a xs rs) (s : Same H H') : PanelAt H' C a xs rs := by
  obtain ⟨dx, fs, N, R, cs, h1, h2, h3, h4, h5, h6⟩ := h
  exact ⟨dx, fs, N, R, cs, s _ _ h1, h2, h3, s _ _ h4, s _ _ h5, h6.same s⟩
def spEnt (C : Addr) : Sp := fun vs H Q _ => ∃ (a : Addr) (xs : List Str) (rs : List (List Str)), vs = [.ref a] ∧ PanelAt H C a xs rs ∧ ∀ D H', Same H H' → H D = none → H' D = some (.lst (xs.map V.str)) → Q (.ref D) H'
def spRws (C : Addr) : Sp := fun vs H Q _ => ∃ (a : Addr) (xs : List Str) (rs : List (List Str)), vs = [.ref a] ∧ PanelAt H C a xs rs ∧ rs.length ≤ 60 ∧
  ∀ D (as : List Addr) H', Same H H' → H D = none → H' D = some (.lst (as.map V.ref)) → RowsAt H' as rs → (∀ c ∈ as, H c = none ∧ c ≠ D) → as.Nodup → Q (.ref D) H'
def spLen (C : Addr) : Sp := fun vs H Q _ => ∃ (a : Addr) (xs : List Str) (rs : List (List Str)), vs = [.ref a] ∧ PanelAt H C a xs rs ∧ Q (.int (rs.length : Int)) H
section
variable {P : Program} {w : World} {K : PySem.W.Frag} {mg : Str → Option Value} {base : Heap} {C : Addr}
abbrev sEnt : Stmt := methS 1
theorem scEnt : FnScope ["self"] ["self"] (defScope sEnt) := ⟨rfl, rfl, rfl, by decide +kernel, rfl, by decide +kernel, by decide +kernel⟩
theorem ok_ent {f : Addr} {fd : FuncData} (F : FnM K "entries" "Panel.entries" sEnt f fd) (LP : LibP mg) (PC : PanC K C) : FnOk P w K mg base CX0 1 f fd ["self"] (spEnt C) := by
  refine okN F scEnt (fun vs H Q E h => ?_) (fun cdv A outer s H vs Q E hr h => ?_)
  · obtain ⟨_, _, _, rfl, _⟩ := h
    rfl
  · obtain ⟨a, xs, rs, rfl, ⟨dx, fs, N, R, cs, h1, h2, h3, h4, h5, h6⟩, k⟩ := h
    refine ⟨_, pss_one (ps_ret (pe_callTy call_list_of (by rfl) LP.list (by decide +kernel) (pa_cons (pe_fld (pv 0) rfl) pa_nil))), ?_⟩
    exact ⟨_, rfl, a, C, dx, fs, _, rfl, h1, PC.cls, PC.nE, h2, N, _, rfl, .inl (SqL.of h4), fun D nD => k D _ (sn nD) nD upd_same⟩
abbrev sLen : Stmt := methS 3
theorem scLen : FnScope ["self"] ["self"] (defScope sLen) := ⟨rfl, rfl, rfl, by decide +kernel, rfl, by decide +kernel, by decide +kernel⟩
theorem ok_len {f : Addr} {fd : FuncData} (F : FnM K "__len__" "Panel.__len__" sLen f fd) (L : Lib K mg) (PC : PanC K C) : FnOk P w K mg base CX0 1 f fd ["self"] (spLen C) := by
  refine okN F scLen (fun vs H Q E h => ?_) (fun cdv A outer s H vs Q E hr h => ?_)
  · obtain ⟨_, _, _, rfl, _⟩ := h
    rfl
  · obtain ⟨a, xs, rs, rfl, ⟨dx, fs, N, R, cs, h1, h2, h3, h4, h5, h6⟩, k⟩ := h
    refine ⟨_, pss_one (ps_ret (pe_callB call_len_seq (by rfl) L.len PySem.boot_len (pa_cons (pe_fld (pv 0) rfl) pa_nil))), ?_⟩
    refine ⟨_, rfl, a, C, dx, fs, _, rfl, h1, PC.cls, PC.nR, h3, R, _, rfl, .inl (SqL.of h5), ?_⟩
    rw [List.length_map, h6.len]
    exact k
abbrev sRws : Stmt := methS 2
theorem scRws : FnScope ["self", "row"] ["self"] (defScope sRws) := ⟨rfl, rfl, rfl, by decide +kernel, rfl, by decide +kernel, by decide +kernel⟩
theorem ok_rws {f : Addr} {fd : FuncData} (F : FnM K "rows" "Panel.rows" sRws f fd) (LP : LibP mg) (PC : PanC K C) : FnOk P w K mg base CX0 1 f fd ["self"] (spRws C) := by
  refine okN F scRws (fun vs H Q E h => ?_) (fun cdv A outer s H vs Q E hr h => ?_)
  · obtain ⟨_, _, _, rfl, _⟩ := h
    rfl
  · obtain ⟨a, xs, rs, rfl, ⟨dx, fs, N, R, cs, h1, h2, h3, h4, h5, h6⟩, le, k⟩ := h
    refine ⟨_, pss_one (ps_ret (pe_lc (own := [("row", 1)]) (g := gName 1) (tt := tYes) (te := tCB (fun xs H Q => ∃ p ys, xs = [V.ref p] ∧ (SqL K H p ys ∨ SqT K H p ys) ∧ ∀ l, H l = none → Q (.ref l) (upd H l (.lst ys))) (tCons (tVar 1) tNil)) rfl scRws.nd (pi_list (pe_fld (pv 0) rfl))
            (blkOk_by (N := ["self", "row"]) (sc := defScope sRws) (by decide +kernel)) (fun _ _ _ _ _ => pg_name (i := 1) scRws.nd rfl (Or.inl rfl)) (fun _ _ _ _ _ => pts_nil)
            (fun _ _ _ _ _ => pe_callTy call_list_of (by rfl) LP.list (by decide +kernel) (pa_cons (pv 1) pa_nil)))), ?_⟩
    refine ⟨_, rfl, a, C, dx, fs, _, rfl, h1, PC.cls, PC.nR, h3, R, rfl, ⟨_, SqL.of h5⟩, fun D hD => lc_list (K := K) (a := R) (xs := cs.map V.ref) (fun i H' => ∃ as : List Addr, H' D = some (.lst (as.map V.ref)) ∧ RowsAt H' as (rs.take i) ∧ (∀ c ∈ as, H c = none ∧ c ≠ D) ∧ as.Nodup ∧ Same H H') ?_ (fun i H' _ h => by obtain ⟨_, _, _, _, _, h⟩ := h; exact SqL.of (h _ _ h5)) ?_ ?_⟩
    · exact ⟨[], upd_same, .nil, (fun c hc => nomatch hc), .nil, sn hD⟩
    · rintro i y H' hi ⟨as, q1, q2, q3, qn, q4⟩
      rw [List.getElem?_map] at hi
      obtain ⟨c, hc, rfl⟩ := Option.map_eq_some_iff.mp hi
      obtain ⟨ws, hw1, hw2⟩ := h6.at hc
      refine ⟨rfl, _, rfl, c, ws.map V.str, rfl, .inl (SqL.of (q4 _ _ hw2)), fun l nl => ?_⟩
      have s5 : Same H' (upd H' l (.lst (ws.map V.str))) := sn nl
      have fl : upd H' l (.lst (ws.map V.str)) l = some (.lst (ws.map V.str)) := upd_same
      generalize upd H' l (.lst (ws.map V.str)) = H5 at s5 fl ⊢
      have nlD : l ≠ D := fun q => by
        rw [q, q1] at nl
        cases nl
      have nla : l ∉ as := fun hx => by
        obtain ⟨y, _, e⟩ := q2.strs hx
        rw [nl] at e
        cases e
      refine ⟨as.map V.ref, s5 _ _ q1, ?_, as ++ [l], by rw [upd_same, List.map_append]; rfl, ?_, ?_, ?_, fun b o e => ?_⟩
      · refine small1000 ?_
        rw [List.length_map, q2.len]
        have := List.length_take_le' i rs
        omega
      · have tk2 : rs.take (i + 1) = rs.take i ++ [ws] := by rw [List.take_succ, hw1]; rfl
        rw [tk2]
        refine RowsAt.snoc ((q2.same s5).keep fun x hx o e => ?_) ?_
        · rw [upd_ne (q3 x hx).2]
          exact e
        · rw [upd_ne nlD]
          exact fl
      · intro x hx
        rcases List.mem_append.mp hx with hx | hx
        · exact q3 x hx
        · rw [List.mem_singleton.mp hx]
          exact ⟨q4.free nl, nlD⟩
      · exact List.nodup_append.mpr ⟨qn, List.pairwise_singleton _ _, fun x hx z hz e => nla (by rw [← List.mem_singleton.mp hz, ← e]; exact hx)⟩
      · rw [upd_ne (ne_of_none e hD)]
        exact s5 _ _ (q4 _ _ e)
    · rintro H' ⟨as, q1, q2, q3, qn, q4⟩
      have lr : (cs.map V.ref).length = rs.length := by rw [List.length_map, h6.len]
      rw [lr, List.take_length] at q2
      exact k D as H' q4 hD q1 q2 q3 qn
end
end K24

set_option maxHeartbeats 8000000
namespace K24
open PySem PySem.Spec PyProof.Rows L2 G1
/-- what more is known of the class -/
structure PanX (K : PySem.W.Frag) (C : Addr) : Prop extends PanC K C where
  cc : PySem.W.findIn K (.ref C) "__class__" = some (some (.builtin "object.__class__"))
  sg : PySem.W.specialIn K (.builtin "object.__class__") "__get__" = some (some (.builtin "getset_descriptor.__get__"))
  tk : PySem.W.takesIn K (.builtin "object.__class__") = some true
  mo : PySem.W.mroIn K C (.type "object") = some true
  me : PySem.W.kitOne K (.ref C) (.ref C) = some true
  no : ∀ T : String, T = "NoneType" ∨ T = "int" ∨ T = "list" ∨ T = "tuple" → PySem.W.kitOne K (.type T) (.ref C) = some false
def DPan (K : PySem.W.Frag) (C : Addr) : V → V → Hp → Bool → Prop := fun x y H b => ∃ (a : Addr) (xs : List Str) (rs : List (List Str)), x = .ref a ∧ PanelAt H C a xs rs ∧
  ((∃ (c : Addr) (ys : List Str) (ts : List (List Str)), y = .ref c ∧ PanelAt H C c ys ts ∧ b = (decide (xs = ys) && decide (rs = ts))) ∨ (∃ T : String, TyX K H y (.type T) ∧ PySem.W.kitOne K (.type T) (.ref C) = some false ∧ b = false))
section
variable {P : Program} {w : World} {K : PySem.W.Frag} {mg : Str → Option Value} {base : Heap} {C : Addr}
abbrev sEq : Stmt := methS 4
theorem scEq : FnScope ["self", "other"] ["self", "other"] (defScope sEq) := ⟨rfl, rfl, rfl, by decide +kernel, rfl, by decide +kernel, by decide +kernel⟩
theorem ok_eq {f : Addr} {fd : FuncData} (F : FnM K "__eq__" "Panel.__eq__" sEq f fd) (LP : LibP mg) (PC : PanX K C) (gP : mg "Panel" = some (.ref C)) : FnOk P w K mg base CX0 1 f fd ["self", "other"] (spEqB (DPan K C)) := by
  refine okN F scEq (fun vs H Q E h => ?_) (fun cdv A outer s H vs Q E hr h => ?_)
  · obtain ⟨_, _, _, rfl, _⟩ := h
    rfl
  · obtain ⟨x, y, b, rfl, ⟨a, xs, rs, rfl, ⟨dx, fs, N, R, cs, h1, h2, h3, h4, h5, h6⟩, hy⟩, k⟩ := h
    have hu := hr.units
    have hu1 : (A.deeper (envOfC "Panel.__eq__" (defScope sEq) s.heap.objs.size f cdv)).units + (0 + 1) < cLine := by omega
    have hu2 : (A.deeper (envOfC "Panel.__eq__" (defScope sEq) s.heap.objs.size f cdv)).units + (1 + 1) < cLine := by omega
    refine ⟨_, pss_one (ps_ret (pe_and (pe_callB call_isi (by rfl) LP.isi (by decide +kernel) (pa_cons (pv 1) (pa_cons (pe_glob (v := .ref C) (by rfl) gP rfl) pa_nil)))
      (pe_and (pe_cmpR (op_eqW (n := 0) hu1) (pe_fld (pv 0) rfl) (pe_fld (pv 1) rfl) (nomark _)) (pe_one (pe_cmpR (op_eqW (n := 1) hu2) (pe_fld (pv 0) rfl) (pe_fld (pv 1) rfl) (nomark _)))))), ?_⟩
    rcases hy with ⟨c, ys, ts, rfl, ⟨dy, gs, N2, R2, ds, g1, g2, g3, g4, g5, g6⟩, rfl⟩ | ⟨T, ty, nk, rfl⟩
    · refine ⟨_, rfl, .ref c, .ref C, .ref C, .ref C, true, rfl, .own C, .base (.ins g1 PC.cls PC.cc PC.sg PC.tk PC.mo), PC.me, true, rfl, iteT ?_⟩
      refine ⟨_, rfl, a, C, dx, fs, _, rfl, h1, PC.cls, PC.nE, h2, _, rfl, c, C, dy, gs, _, rfl, g1, PC.cls, PC.nE, g2, _, lists_strs (SqL.of h4) (SqL.of g4), _, rfl, ?_⟩
      cases e1 : decide (xs = ys) with
      | false =>
        rw [e1] at k
        exact iteF (k H (Same.refl H))
      | true =>
        rw [e1] at k
        refine iteT ⟨_, rfl, a, C, dx, fs, _, rfl, h1, PC.cls, PC.nR, h3, _, rfl, c, C, dy, gs, _, rfl, g1, PC.cls, PC.nR, g3, _, lists_rows h5 g5 h6 g6, ?_⟩
        exact k H (Same.refl H)
    · refine ⟨_, rfl, y, .ref C, .type T, .ref C, false, rfl, .own C, ty, nk, false, rfl, iteF ?_⟩
      exact k H (Same.refl H)
end
end K24

set_option maxHeartbeats 8000000
namespace K24
open PySem PySem.Spec PyProof.Rows L2 G1
theorem Unl.same {K : PySem.W.Frag} {H H' : Hp} {v : V} {b : Bool} (h : Unl K H v b) (s : Same H H') : Unl K H' v b := by
  cases h with
  | no t n => exact .no (TyX.same t s) n
  | odd h1 h2 h3 h4 => exact .odd (s _ _ h1) h2 (h3.same s) h4
  | names h1 h2 h3 => exact .names (s _ _ h1) h2 h3
theorem RItL.ofStrs {K : PySem.W.Frag} {H : Hp} (zs : List Str) : RItL K H (zs.map V.str) (zs.map some) := by
  induction zs with
  | nil => exact .nil
  | cons z zs ih => exact .cons (.str z) ih
theorem RItL.append {K : PySem.W.Frag} {H : Hp} {vs ws : List V} {os ps : List (Option Str)} (h : RItL K H vs os) (g : RItL K H ws ps) : RItL K H (vs ++ ws) (os ++ ps) := by
  induction h with
  | nil => exact g
  | cons e _ ih => exact .cons e ih
theorem cutV_last {xs : List V} : cutV xs none (some (-1 : Int)) = xs.dropLast := by
  have e : HT.sIx xs.length xs.length (some (-1 : Int)) = xs.length - 1 := by
    unfold HT.sIx
    simp
    omega
  unfold cutV
  rw [e, List.dropLast_eq_take]
  rfl
theorem cutV_one {xs : List V} : cutV xs (some (1 : Int)) (some (2 : Int)) = (xs.drop 1).take 1 := by
  have e1 : HT.sIx xs.length 0 (some (1 : Int)) = min 1 xs.length := by
    unfold HT.sIx
    simp
  have e2 : HT.sIx xs.length xs.length (some (2 : Int)) = min 2 xs.length := by
    unfold HT.sIx
    simp
  unfold cutV
  rw [e1, e2]
  match xs with
  | [] => rfl
  | [_] => rfl
  | _ :: _ :: _ => simp
theorem same_del {A H' : Hp} {D : Addr} (s : Same A H') (n : A D = none) : Same A (delH H' D) := fun b o e => by
  rw [delH_ne (ne_of_none e n)]
  exact s b o e
theorem del_sub {H : Hp} {l : Addr} : Same (delH H l) H := fun b o e => by
  by_cases q : b = l
  · rw [q, delH_same] at e
    cases e
  · rw [delH_ne q] at e
    exact e
theorem del_mono {H H' : Hp} {l : Addr} (s : Same H H') : Same (delH H l) (delH H' l) := fun b o e => by
  by_cases q : b = l
  · rw [q, delH_same] at e
    cases e
  · rw [delH_ne q] at e ⊢
    exact s b o e
theorem del_upd {H : Hp} {l : Addr} {o : HO} : Same (delH H l) (delH (upd H l o) l) := fun b u e => by
  by_cases q : b = l
  · rw [q, delH_same] at e
    cases e
  · rw [delH_ne q] at e ⊢
    rw [upd_ne q]
    exact e
theorem cutV_from {xs : List V} (h : 1 ≤ xs.length) : cutV xs (some (1 : Int)) none = xs.drop 1 := by
  have e : HT.sIx xs.length 0 (some (1 : Int)) = 1 := by
    unfold HT.sIx
    simp
    omega
  have e2 : HT.sIx xs.length xs.length none = xs.length := rfl
  unfold cutV
  rw [e, e2]
  exact List.take_of_length_le (by rw [List.length_drop]; exact Nat.le_refl _)
theorem rows_true {K : PySem.W.Frag} {H : Hp} {xs : List Str} {as : List Addr} {rs : List (List Str)} (h : RowsAt H as rs) (hp : ∀ r ∈ rs, r.Perm xs) (le : xs.length ≤ 60) : RowVL K H xs (as.map V.ref) (rs.map fun _ => true) := by
  induction h with
  | nil => exact .nil
  | @cons a r as rs e _ ih =>
    have p := hp r List.mem_cons_self
    exact .cons (.lst e (by rw [List.length_map, p.length_eq]; exact le) (.ofStrs r) ⟨fun _ => ⟨r, rfl, p⟩, fun _ => rfl⟩) (ih fun y hy => hp y (List.mem_cons_of_mem _ hy))
theorem RowVL.append {K : PySem.W.Frag} {H : Hp} {xs : List Str} {vs ws : List V} {bs cs : List Bool} (h : RowVL K H xs vs bs) (g : RowVL K H xs ws cs) : RowVL K H xs (vs ++ ws) (bs ++ cs) := by
  induction h with
  | nil => exact g
  | cons e _ ih => exact .cons e ih
theorem unl_names {K : PySem.W.Frag} {H : Hp} {e : Addr} {zs : List Str} (h : H e = some (.lst (zs.map V.str))) (le : zs.length ≤ 40) (nm : ∀ z ∈ zs, Nm z) (nd : zs.Nodup) (l1 : 1 ≤ zs.length) : Unl K H (.ref e) true := by
  have q : Unl K H (.ref e) (!zs.isEmpty && decide zs.Nodup) := .names h (by omega) nm
  have e1 : zs.isEmpty = false := by
    cases zs with
    | nil => exact absurd l1 (by decide)
    | cons _ _ => rfl
  rw [e1, decide_eq_true nd] at q
  exact q
/-- what is in a heap and was not in an earlier one -/
def newH (H H' : Hp) : Hp := fun b => match H b with
  | none => H' b
  | some _ => none
theorem new_sub {H H' : Hp} : Same (newH H H') H' := fun b o e => by
  unfold newH at e
  cases q : H b with
  | none => rw [q] at e; exact e
  | some u => rw [q] at e; cases e
theorem new_at {H H' : Hp} {b : Addr} (h : H b = none) : newH H H' b = H' b := by
  unfold newH
  rw [h]
theorem new_none {H H' : Hp} {b : Addr} (h : H b ≠ none) : newH H H' b = none := by
  unfold newH
  cases q : H b with
  | none => exact absurd q h
  | some u => rfl
theorem same_upd {A B : Hp} {b : Addr} {o : HO} (s : Same A B) (n : A b = none) : Same A (upd B b o) := fun c u e => by
  rw [upd_ne (ne_of_none e n)]
  exact s c u e
/-- its methods are not hidden by fields -/
def Fre (H : Hp) (C a : Addr) : Prop := ∃ (dx : Addr) (fs : List (Str × V)), H a = some (.ins C dx fs) ∧ fs.lookup ("entries" : Str) = none ∧ fs.lookup ("rows" : Str) = none ∧ fs.lookup ("struck" : Str) = none ∧ fs.lookup ("with_row" : Str) = none ∧ fs.lookup ("without_row" : Str) = none ∧ fs.lookup ("renamed" : Str) = none
theorem Fre.same {H H' : Hp} {C a : Addr} (h : Fre H C a) (s : Same H H') : Fre H' C a := by
  obtain ⟨dx, fs, h1, h2⟩ := h
  exact ⟨dx, fs, s _ _ h1, h2⟩
/-- a panel made of what is right -/
theorem make_ok {K : PySem.W.Frag} {C : Addr} {H : Hp} {P : Addr → Hp → Prop} {E : XK} {e r : Addr} {zs xs : List Str} {as : List Addr} {rs : List (List Str)} (he : H e = some (.lst (zs.map V.str))) (nm : ∀ z ∈ zs, Nm z) (nd : zs.Nodup) (l1 : 1 ≤ zs.length) (l2 : zs.length ≤ 40)
    (p : xs.Perm zs) (so : sortedS xs = true) (hr : H r = some (.lst (as.map V.ref))) (ha : RowsAt H as rs) (hp : ∀ y ∈ rs, y.Perm xs) (r1 : 1 ≤ rs.length) (r2 : rs.length ≤ 40)
    (k : ∀ a H', Same H H' → H a = none → PanelAt H' C a xs rs → PanelAt (newH H H') C a xs rs → Fre (newH H H') C a → P a H') :
    ∀ a dx, H a = none → H dx = none → dx ≠ a → spInit K C [.ref a, .ref e, .ref r] (upd (upd H dx (.own a)) a (.ins C dx [])) (fun v H2 => v = .non ∧ P a H2) E := by
  intro a dx na nd2 ne
  have s1 : Same H (upd (upd H dx (.own a)) a (.ins C dx [])) := (sn nd2).trans (sn (by rw [upd_ne (Ne.symm ne)]; exact na))
  have fa : upd (upd H dx (.own a)) a (.ins C dx []) a = some (.ins C dx []) := upd_same
  generalize upd (upd H dx (.own a)) a (.ins C dx []) = H1 at s1 fa ⊢
  refine ⟨a, dx, .ref e, .ref r, true, rfl, fa, unl_names (s1 _ _ he) l2 nm nd l1, (fun q => nomatch q), fun _ => ⟨e, zs, rfl, SqL.of (s1 _ _ he), by omega, fun ys py sy => ?_⟩⟩
  have exy : ys = xs := sorted_uniq sy so (py.trans p.symm)
  subst exy
  have lra := ha.len
  have q : RowsV K H1 ys (.ref r) (!(as.map V.ref).isEmpty && (rs.map fun _ => true).all id) := .lst (s1 _ _ hr) (by rw [List.length_map]; omega) (rows_true (ha.same s1) hp (by have := p.length_eq; omega))
  have e1 : (as.map V.ref).isEmpty = false := by
    cases as with
    | nil => simp at lra; omega
    | cons _ _ => rfl
  have e2 : (rs.map fun _ => true).all id = true := by
    rw [List.all_map]
    exact List.all_eq_true.mpr fun _ _ => rfl
  rw [e1, e2] at q
  refine ⟨true, q, (fun z => nomatch z), fun _ r' as' rs' er hr' hra' hp' fs N R cs H' h1 h2 h3 h4 h5 h6 h7 h8 h9 g1 g2 b => ⟨rfl, ?_⟩⟩
  cases er
  have ers : rs' = rs := by
    rw [s1 _ _ hr] at hr'
    injection hr' with z
    injection z with z
    have eas : as = as' := by
      have inj : ∀ {x y : List Addr}, x.map V.ref = y.map V.ref → x = y := fun {x} => by
        induction x with
        | nil => intro y h; cases y with
          | nil => rfl
          | cons _ _ => cases h
        | cons x0 x ih => intro y h; cases y with
          | nil => cases h
          | cons y0 y =>
            injection h with h1 h2
            injection h1 with h3
            rw [h3, ih h2]
      exact inj z
    subst eas
    have ha1 := ha.same s1
    clear hp' hp h6 k q e1 e2 lra r1 r2 hr z ha
    induction hra' generalizing rs with
    | nil => cases ha1; rfl
    | cons e0 _ ih =>
      cases ha1 with
      | cons e3 t3 =>
        rw [e0] at e3
        injection e3 with e3
        injection e3 with e3
        rw [map_str_inj e3, ih t3]
  subst ers
  have w1 : newH H H' a = some (.ins C dx fs) := by rw [new_at na]; exact h1
  refine k a H' (fun c o ec => ?_) na ⟨dx, fs, N, R, cs, h1, h2, h3, h4, h5, h6⟩ ⟨dx, fs, N, R, cs, w1, h2, h3, ?_, ?_, h6.keep fun c hc o e => ?_⟩ ⟨dx, fs, w1, g1, g2⟩
  rotate_left
  · rw [new_at (s1.free h7)]; exact h4
  · rw [new_at (s1.free h8)]; exact h5
  · rw [new_at (s1.free (h9 c hc))]; exact e
  by_cases qc : c = a
  · rw [qc, na] at ec
    cases ec
  · exact b c o qc (s1 _ _ ec)
/-- what more is known of the class where panels are compared -/
structure PanY (K : PySem.W.Frag) (C fE : Addr) : Prop extends PanX K C where
  eq : PySem.W.findIn K (.ref C) "__eq__" = some (some (.ref fE))
  fn : PySem.W.isFn K (.ref fE) = true
  ne : PySem.W.findIn K (.ref C) "__ne__" = some (some (.builtin "object.__ne__"))
  ob : PySem.W.subIn K (.ref C) (.type "object") = some true
  nm : PySem.W.notFirst K C (.ref C) = true
  nt : ∀ T : String, T = "NoneType" ∨ T = "int" ∨ T = "list" ∨ T = "tuple" → PySem.W.notFirst K C (.type T) = true
theorem RowsAt.app {H : Hp} {as bs : List Addr} {rs ts : List (List Str)} (h : RowsAt H as rs) (g : RowsAt H bs ts) : RowsAt H (as ++ bs) (rs ++ ts) := by
  induction h with
  | nil => exact g
  | cons e _ ih => exact .cons e ih
theorem RowsAt.tk {H : Hp} {as : List Addr} {rs : List (List Str)} (h : RowsAt H as rs) (m : Nat) : RowsAt H (as.take m) (rs.take m) := by
  induction h generalizing m with
  | nil => rw [List.take_nil, List.take_nil]; exact .nil
  | cons e _ ih =>
    cases m with
    | zero => exact .nil
    | succ m => exact .cons e (ih m)
theorem RowsAt.dr {H : Hp} {as : List Addr} {rs : List (List Str)} (h : RowsAt H as rs) (m : Nat) : RowsAt H (as.drop m) (rs.drop m) := by
  induction h generalizing m with
  | nil => rw [List.drop_nil, List.drop_nil]; exact .nil
  | cons e t ih =>
    cases m with
    | zero => exact .cons e t
    | succ m => exact ih m
theorem RowsAt.rev {H : Hp} {as : List Addr} {rs : List (List Str)} (h : RowsAt H as rs) : RowsAt H as.reverse rs.reverse := by
  induction h with
  | nil => exact .nil
  | cons e _ ih =>
    rw [List.reverse_cons, List.reverse_cons]
    exact ih.snoc e
end K24

set_option maxHeartbeats 4000000
/-! len(x) by an own __len__ -/
namespace G1
open PySem PySem.Spec PyProof.Rows L2
def rLenO (C : Addr) (sp : Sp) : List V → Hp → VK → Prop := fun xs H Q => ∃ (a dx : Addr) (fs : List (Str × V)) (n : Int), xs = [.ref a] ∧ H a = some (.ins C dx fs) ∧ 0 ≤ n ∧ n < 2 ^ 63 ∧ sp [.ref a] H (fun v H' => v = .int n ∧ Q (.int n) H') E0
section
variable {X : Cx}
theorem call_lenO {C f : Addr} {fd : FuncData} {ps : List Str} {k : Nat} {sp : Sp} (F : FnOk X.prog X.w X.K X.mg X.base CX0 k f fd ps sp) (hr : Room (k + 1) X.A)
    (hs : PySem.W.findIn X.K (.ref C) "__len__" = some (some (.ref f))) (hf : PySem.W.isFn X.K (.ref f) = true) (hb : Binds X.K fd ps []) : CallR X (.builtin "len") (rLenO C sp) := by
  intro pins s σ H xs us Q I r h
  obtain ⟨a, dx, fs, n, rfl, ha, n0, n1, hsp⟩ := h
  obtain ⟨u, rfl, ru⟩ := vals1 r
  obtain rfl : u = Value.ref a := ru
  obtain ⟨mA, J, _⟩ := ins_get I.hok ha
  obtain ⟨od, J, _⟩ := J.look
  obtain ⟨m, hF⟩ := I.fr
  have hr1 : Room k X.A.in1 := hr.in1
  refine PySem.W.len_K hF I.ok.mod.kin J hs hf ?_
  have r2 : Vals [V.ref a] [Value.ref a] := .cons rfl .nil
  have len := F.len _ _ _ _ hsp
  have e0 : Env0 X.prog X.w X.K X.mg X.base X.A.in1 X.stack s H := by
    have e := I.env0
    exact ⟨e.frames, e.mod, e.bs, e.bsz, e.funs, e.frf, e.hok, e.bare⟩
  refine wpAny_call (codeAny_mono (F.run X.A.in1 X.stack s H ⟨[.ref a], []⟩ [.ref a] [V.ref a] _ E0 hr1 e0 (by
    have z := hb s [.ref a] I.kIn (by simpa using len)
    simpa using z) r2 hsp) fun r s' hq => ?_)
  match r, hq with
  | .error e, hq => exact pass0 (X := X) pins σ H s e s' I hq
  | .ok (.ret w), hq =>
    obtain ⟨z, H', I', rz, ez, q⟩ := I.after hq
    subst ez
    obtain ⟨t, rfl⟩ := rz
    exact ⟨⟨n0, n1⟩, .int n, H', I'.tok _, ⟨_, rfl⟩, q⟩
end
end G1

set_option maxHeartbeats 8000000
namespace K24
open PySem PySem.Spec PyProof.Rows L2 G1
/-! ### data that is small -/
structure FineN (d : PyData) (n w : Nat) : Prop where
  a : PyData.canLay0 d = true
  b : PyData.depth d ≤ n
  c : PyData.weight d ≤ w
  e : d.intsShort 13 = true
  f : d.showable = true
  g : d.hasDict = false
structure FineAll (ds : List PyData) (n w : Nat) : Prop where
  a : PyData.canLayAll0 ds = true
  b : PyData.depthAll ds ≤ n
  c : PyData.weightAll ds ≤ w
  e : PyData.intsShortAll 13 ds = true
  f : PyData.showableAll ds = true
  g : PyData.hasDictAll ds = false
theorem FineN.le {d : PyData} {n w : Nat} (h : FineN d n w) (hn : n ≤ 10) (hw : w ≤ 1000) : d.shown.length ≤ sizeLine := by
  have l : PyData.layable0 d = true := by
    unfold PyData.layable0
    rw [Bool.and_eq_true, Bool.and_eq_true]
    exact ⟨⟨h.a, decide_eq_true (Nat.le_trans (Nat.le_trans h.b hn) (by decide))⟩, decide_eq_true (Nat.le_trans (Nat.le_trans h.c hw) (by decide))⟩
  exact Nat.le_trans (shown_le13 l h.e) (by decide)
theorem FineN.shaped {d : PyData} {n w : Nat} (h : FineN d n w) (hn : n ≤ 10) : SeqAt.shaped d = true := by
  unfold SeqAt.shaped
  rw [Bool.and_eq_true]
  exact ⟨h.a, decide_eq_true (Nat.le_trans (Nat.le_trans h.b hn) (by decide))⟩
theorem FineN.mono {d : PyData} {n w n' w' : Nat} (h : FineN d n w) (hn : n ≤ n') (hw : w ≤ w') : FineN d n' w' := ⟨h.a, Nat.le_trans h.b hn, Nat.le_trans h.c hw, h.e, h.f, h.g⟩
theorem FineAll.nil (n w : Nat) : FineAll [] n w := by
  constructor <;> simp [PyData.canLayAll0, PyData.depthAll, PyData.weightAll, PyData.intsShortAll, PyData.showableAll, PyData.hasDictAll]
theorem FineAll.cons {d : PyData} {ds : List PyData} {n w v : Nat} (h : FineN d n w) (k : FineAll ds n v) : FineAll (d :: ds) n (w + 1 + v) := by
  obtain ⟨a1, a2, a3, a4, a5, a6⟩ := h
  obtain ⟨b1, b2, b3, b4, b5, b6⟩ := k
  constructor <;> simp only [PyData.canLayAll0, PyData.depthAll, PyData.weightAll, PyData.intsShortAll, PyData.showableAll, PyData.hasDictAll, a1, a4, a5, a6, b1, b4, b5, b6, Bool.and_self, Bool.or_self] <;> omega
theorem FineAll.list {ds : List PyData} {n w : Nat} (h : FineAll ds n w) : FineN (.list ds) (n + 1) w := by
  obtain ⟨a1, a2, a3, a4, a5, a6⟩ := h
  constructor <;> simp only [PyData.canLay0, PyData.depth, PyData.weight, PyData.intsShort, PyData.showable, PyData.hasDict, a1, a4, a5, a6] <;> omega
theorem strOk_of {z : Str} (h : Letters z) : PyData.strOk z = true := by
  unfold PyData.strOk
  rw [Array.all_eq_true_iff_forall_mem]
  intro c hc
  have := h c (Array.mem_toList_iff.mpr hc)
  exact decide_eq_true (by omega)
theorem fn_str {z : Str} (n : Nat) (h : Nm z) : FineN (.str z) n 8 := by
  have hl' : z.cps.size ≤ 8 := h.2.1
  have ok := strOk_of h.2.2
  constructor <;> simp only [PyData.canLay0, PyData.depth, PyData.weight, PyData.intsShort, PyData.showable, PyData.hasDict, ok] <;> omega
theorem fn_int (n : Nat) {m : Nat} (h1 : 1 ≤ m) (h4 : m ≤ 4) : FineN (.int (m : Int)) n 8 := by
  have e : m = 1 ∨ m = 2 ∨ m = 3 ∨ m = 4 := by omega
  have d : ∀ i ∈ [1, 2, 3, 4], PyData.canLay0 (.int (i : Int)) = true ∧ PyData.depth (.int (i : Int)) = 0 ∧ PyData.weight (.int (i : Int)) ≤ 8 ∧ PyData.intsShort 13 (.int (i : Int)) = true ∧ PyData.showable (.int (i : Int)) = true ∧ PyData.hasDict (.int (i : Int)) = false := by
    decide +kernel
  have hm : (m : Int) ∈ [1, 2, 3, 4] := by
    rcases e with rfl | rfl | rfl | rfl <;> simp
  obtain ⟨d1, d2, d3, d4, d5, d6⟩ := d _ hm
  exact ⟨d1, by rw [d2]; exact Nat.zero_le _, d3, d4, d5, d6⟩
def rd (r : List Str) : PyData := .list (r.map PyData.str)
def rsd (rs : List (List Str)) : PyData := .list (rs.map rd)
theorem fine_strs {r : List Str} (h : ∀ z ∈ r, Nm z) : FineAll (r.map PyData.str) 0 (9 * r.length) := by
  induction r with
  | nil => exact .nil _ _
  | cons z r ih =>
    have q := FineAll.cons (fn_str 0 (h z List.mem_cons_self)) (ih fun y hy => h y (List.mem_cons_of_mem _ hy))
    rw [List.map_cons, List.length_cons, show 9 * (r.length + 1) = 8 + 1 + 9 * r.length by omega]
    exact q
theorem fine_row {r : List Str} (h : ∀ z ∈ r, Nm z) (l : r.length ≤ 7) : FineN (rd r) 1 63 := (fine_strs h).list.mono (Nat.le_refl _) (by omega)
theorem fine_rows {rs : List (List Str)} (h : ∀ r ∈ rs, (∀ z ∈ r, Nm z) ∧ r.length ≤ 7) : FineAll (rs.map rd) 1 (64 * rs.length) := by
  induction rs with
  | nil => exact .nil _ _
  | cons r rs ih =>
    have q := FineAll.cons (fine_row (h r List.mem_cons_self).1 (h r List.mem_cons_self).2) (ih fun y hy => h y (List.mem_cons_of_mem _ hy))
    rw [List.map_cons, List.length_cons, show 64 * (rs.length + 1) = 63 + 1 + 64 * rs.length by omega]
    exact q
theorem fine_rsd {rs : List (List Str)} (h : ∀ r ∈ rs, (∀ z ∈ r, Nm z) ∧ r.length ≤ 7) (l : rs.length ≤ 4) : FineN (rsd rs) 2 256 := (fine_rows h).list.mono (Nat.le_refl _) (by omega)
theorem eqv_fine {d : PyData} {n w : Nat} (h : FineN d n w) : PyData.eqv d d = true := SeqAt.eqv_refl d h.a
theorem dps_strs {K : PySem.W.Frag} {H : Hp} (r : List Str) : DpAll K H (r.map V.str) (r.map PyData.str) := by
  induction r with
  | nil => exact .nil
  | cons z r ih => exact .cons (.str z) ih
theorem dp_row {K : PySem.W.Frag} {H : Hp} {a : Addr} {r : List Str} (h : H a = some (.lst (r.map V.str))) : Dp K H (.ref a) (rd r) := .lst (SqL.of h) (dps_strs r)
theorem dps_rows {K : PySem.W.Frag} {H : Hp} {as : List Addr} {rs : List (List Str)} (h : RowsAt H as rs) : DpAll K H (as.map V.ref) (rs.map rd) := by
  induction h with
  | nil => exact .nil
  | cons e _ ih => exact .cons (dp_row e) ih
theorem dp_rows {K : PySem.W.Frag} {H : Hp} {a : Addr} {as : List Addr} {rs : List (List Str)} (h : H a = some (.lst (as.map V.ref))) (r : RowsAt H as rs) : Dp K H (.ref a) (rsd rs) := .lst (SqL.of h) (dps_rows r)
/-- [list(row) for row in rows] -/
theorem lc_rows {K : PySem.W.Frag} {R : Addr} {as : List Addr} {rs : List (List Str)} {g : TG} {tt : TT} {te : TE} {vs : List Nat} {σ : L2.St} {H1 : Hp} {D : Addr} {Qd : Hp → Prop} (hR : H1 R = some (.lst (as.map V.ref))) (hra : RowsAt H1 as rs) (le : rs.length ≤ 60) (hD : H1 D = none)
    (hst : ∀ (c : Addr) (H' : Hp) (F : V → Hp → Prop) (E : Hp → Prop), (∃ p ys, [V.ref c] = [V.ref p] ∧ (SqL K H' p ys ∨ SqT K H' p ys) ∧ ∀ l, H' l = none → F (.ref l) (upd H' l (.lst ys))) →
      g (.ref c) (wipe σ vs) H' fun σ2 H2 => wipe σ2 vs = wipe σ vs ∧ tt σ2 H2 fun b H3 => if b = true then te σ2 H3 fun y H4 => F y H4 else E H3)
    (k : ∀ (ls : List Addr) (H' : Hp), H' D = some (.lst (ls.map V.ref)) → RowsAt H' ls rs → (∀ c ∈ ls, H1 c = none ∧ c ≠ D) → ls.Nodup → Same H1 H' → Qd H') :
    ∃ W : Nat → Nat → Hp → Prop, (∃ m, W 0 m (upd H1 D (.lst []))) ∧ ∀ i m H, W i m H →
      ((Itl K R).stop i H ∧ Qd H) ∨ ((Itl K R).go i H ∧ ∃ Nx : Hp → Prop, (∀ H', Nx H' → ∃ m', m' < m ∧ W (i + 1) m' H') ∧ ∀ x H', (Itl K R).yld i H x H' → g x (wipe σ vs) H' fun σ2 H2 => wipe σ2 vs = wipe σ vs ∧ tt σ2 H2 fun b H3 =>
        if b = true then te σ2 H3 fun y H4 => ∃ acc, H4 D = some (.lst acc) ∧ acc.length < sizeLine ∧ Nx (upd H4 D (.lst (acc ++ [y]))) else Nx H3) := by
  refine lc_list (K := K) (a := R) (xs := as.map V.ref) (fun i H' => ∃ ls : List Addr, H' D = some (.lst (ls.map V.ref)) ∧ RowsAt H' ls (rs.take i) ∧ (∀ c ∈ ls, H1 c = none ∧ c ≠ D) ∧ ls.Nodup ∧ Same H1 H') ?_ (fun i H' _ h => by obtain ⟨_, _, _, _, _, h⟩ := h; exact SqL.of (h _ _ hR)) ?_ ?_
  · exact ⟨[], upd_same, .nil, (fun c hc => nomatch hc), .nil, sn hD⟩
  · rintro i y H' hi ⟨ls, q1, q2, q3, qn, q4⟩
    rw [List.getElem?_map] at hi
    obtain ⟨c, hc, rfl⟩ := Option.map_eq_some_iff.mp hi
    obtain ⟨ws, hw1, hw2⟩ := hra.at hc
    refine hst c H' _ _ ⟨c, ws.map V.str, rfl, .inl (SqL.of (q4 _ _ hw2)), fun l nl => ?_⟩
    have s5 : Same H' (upd H' l (.lst (ws.map V.str))) := sn nl
    have fl : upd H' l (.lst (ws.map V.str)) l = some (.lst (ws.map V.str)) := upd_same
    generalize upd H' l (.lst (ws.map V.str)) = H5 at s5 fl ⊢
    have nlD : l ≠ D := fun q => by
      rw [q, q1] at nl
      cases nl
    have nla : l ∉ ls := fun hx => by
      obtain ⟨y, _, e⟩ := q2.strs hx
      rw [nl] at e
      cases e
    refine ⟨ls.map V.ref, s5 _ _ q1, ?_, ls ++ [l], by rw [upd_same, List.map_append]; rfl, ?_, ?_, ?_, fun b o e => ?_⟩
    · refine small1000 ?_
      rw [List.length_map, q2.len]
      have := List.length_take_le' i rs
      omega
    · have tk2 : rs.take (i + 1) = rs.take i ++ [ws] := by rw [List.take_succ, hw1]; rfl
      rw [tk2]
      refine RowsAt.snoc ((q2.same s5).keep fun x hx o e => ?_) ?_
      · rw [upd_ne (q3 x hx).2]
        exact e
      · rw [upd_ne nlD]
        exact fl
    · intro x hx
      rcases List.mem_append.mp hx with hx | hx
      · exact q3 x hx
      · rw [List.mem_singleton.mp hx]
        exact ⟨q4.free nl, nlD⟩
    · exact List.nodup_append.mpr ⟨qn, List.pairwise_singleton _ _, fun x hx z hz e => nla (by rw [← List.mem_singleton.mp hz, ← e]; exact hx)⟩
    · rw [upd_ne (ne_of_none e hD)]
      exact s5 _ _ (q4 _ _ e)
  · rintro H' ⟨ls, q1, q2, q3, qn, q4⟩
    have lr : (as.map V.ref).length = rs.length := by rw [List.length_map, hra.len]
    rw [lr, List.take_length] at q2
    exact k ls H' q1 q2 q3 qn q4
end K24

set_option maxHeartbeats 8000000
namespace K24
open PySem PySem.Spec PyProof.Rows L2 G1
/-- a statement that is never come to -/
theorem ps_never {X : Cx} {st : Stmt} : PS X st (fun _ _ _ => False) := ⟨fun _ _ _ _ _ _ h => h.elim⟩
/-- a comprehension over zip of two lists, the second one no longer -/
theorem lc_zip {K : PySem.W.Frag} {a b : Addr} {xs ys : List V} {g : TG} {tt : TT} {te : TE} {vs : List Nat} {σ : L2.St} {H1 : Hp} {D : Addr} {Qd : Hp → Prop} (hl : ys.length ≤ xs.length) (Pv : Nat → Hp → Prop) (h0 : Pv 0 (upd H1 D (.lst []))) (hq : ∀ i H, Pv i H → SqL K H a xs ∧ SqL K H b ys)
    (hs : ∀ (i : Nat) (x y : V) (T : Addr) (H : Hp), xs[i]? = some x → ys[i]? = some y → Pv i H → H T = none → g (.ref T) (wipe σ vs) (upd H T (.tup [x, y])) fun σ2 H2 => wipe σ2 vs = wipe σ vs ∧ tt σ2 H2 fun b H3 =>
      if b = true then te σ2 H3 fun y H4 => ∃ acc, H4 D = some (.lst acc) ∧ acc.length < sizeLine ∧ Pv (i + 1) (upd H4 D (.lst (acc ++ [y]))) else Pv (i + 1) H3) (hd : ∀ H, Pv ys.length H → Qd H) :
    ∃ W : Nat → Nat → Hp → Prop, (∃ m, W 0 m (upd H1 D (.lst []))) ∧ ∀ i m H, W i m H →
      ((Itz K a b).stop i H ∧ Qd H) ∨ ((Itz K a b).go i H ∧ ∃ Nx : Hp → Prop, (∀ H', Nx H' → ∃ m', m' < m ∧ W (i + 1) m' H') ∧ ∀ v H', (Itz K a b).yld i H v H' → g v (wipe σ vs) H' fun σ2 H2 => wipe σ2 vs = wipe σ vs ∧ tt σ2 H2 fun b H3 =>
        if b = true then te σ2 H3 fun y H4 => ∃ acc, H4 D = some (.lst acc) ∧ acc.length < sizeLine ∧ Nx (upd H4 D (.lst (acc ++ [y]))) else Nx H3) := by
  refine ⟨fun i m H => m = ys.length - i ∧ i ≤ ys.length ∧ Pv i H, ⟨ys.length, rfl, Nat.zero_le _, h0⟩, ?_⟩
  rintro i m H ⟨rfl, hi, p⟩
  obtain ⟨qx, qy⟩ := hq i H p
  by_cases lt : i < ys.length
  · have e1 : xs[i]? = some (xs[i]'(by omega)) := List.getElem?_eq_getElem _
    have e2 : ys[i]? = some ys[i] := List.getElem?_eq_getElem lt
    refine .inr ⟨⟨xs, ys, _, _, qx, qy, e1, e2⟩, Pv (i + 1), fun H' z => ⟨ys.length - (i + 1), by omega, rfl, lt, z⟩, fun v H' z => ?_⟩
    obtain ⟨T, x, y, rfl, nT, rfl, f1, f2⟩ := z
    exact hs i x y T H (f1 xs qx) (f2 ys qy) p nT
  · have e : i = ys.length := by omega
    exact .inl ⟨⟨xs, ys, qx, qy, .inr (by omega)⟩, hd H (e ▸ p)⟩
/-- .. over enumerate of a list -/
theorem lc_enum {K : PySem.W.Frag} {a : Addr} {xs : List V} {g : TG} {tt : TT} {te : TE} {vs : List Nat} {σ : L2.St} {H1 : Hp} {D : Addr} {Qd : Hp → Prop} (Pv : Nat → Hp → Prop) (h0 : Pv 0 (upd H1 D (.lst []))) (hq : ∀ i H, Pv i H → SqL K H a xs)
    (hs : ∀ (i : Nat) (x : V) (T : Addr) (H : Hp), xs[i]? = some x → Pv i H → H T = none → g (.ref T) (wipe σ vs) (upd H T (.tup [.int (i : Nat), x])) fun σ2 H2 => wipe σ2 vs = wipe σ vs ∧ tt σ2 H2 fun b H3 =>
      if b = true then te σ2 H3 fun y H4 => ∃ acc, H4 D = some (.lst acc) ∧ acc.length < sizeLine ∧ Pv (i + 1) (upd H4 D (.lst (acc ++ [y]))) else Pv (i + 1) H3) (hd : ∀ H, Pv xs.length H → Qd H) :
    ∃ W : Nat → Nat → Hp → Prop, (∃ m, W 0 m (upd H1 D (.lst []))) ∧ ∀ i m H, W i m H →
      ((Ite K a).stop i H ∧ Qd H) ∨ ((Ite K a).go i H ∧ ∃ Nx : Hp → Prop, (∀ H', Nx H' → ∃ m', m' < m ∧ W (i + 1) m' H') ∧ ∀ v H', (Ite K a).yld i H v H' → g v (wipe σ vs) H' fun σ2 H2 => wipe σ2 vs = wipe σ vs ∧ tt σ2 H2 fun b H3 =>
        if b = true then te σ2 H3 fun y H4 => ∃ acc, H4 D = some (.lst acc) ∧ acc.length < sizeLine ∧ Nx (upd H4 D (.lst (acc ++ [y]))) else Nx H3) := by
  refine ⟨fun i m H => m = xs.length - i ∧ i ≤ xs.length ∧ Pv i H, ⟨xs.length, rfl, Nat.zero_le _, h0⟩, ?_⟩
  rintro i m H ⟨rfl, hi, p⟩
  have qx := hq i H p
  by_cases lt : i < xs.length
  · have e1 : xs[i]? = some xs[i] := List.getElem?_eq_getElem lt
    refine .inr ⟨⟨xs, _, qx, e1⟩, Pv (i + 1), fun H' z => ⟨xs.length - (i + 1), by omega, rfl, lt, z⟩, fun v H' z => ?_⟩
    obtain ⟨T, x, rfl, nT, rfl, f1⟩ := z
    exact hs i x T H (f1 xs qx) p nT
  · have e : i = xs.length := by omega
    exact .inl ⟨⟨xs, qx, by omega⟩, hd H (e ▸ p)⟩
theorem cut1 {xs : List V} : cutV xs (some (1 : Int)) none = xs.drop 1 := by
  cases xs with
  | nil => rfl
  | cons x xs => exact cutV_from (by simp)
/-- one text ahead of another one -/
def ltB (a b : Str) : Bool := decide (a.cps.toList < b.cps.toList)
def ascB (zs : List Str) : Bool := (zs.zip (zs.drop 1)).all fun p => ltB p.1 p.2
def lotB (xs zs : List Str) : Bool := zs.all (fun z => decide (z ∈ xs)) && ascB zs
def spAsc (K : PySem.W.Frag) : Sp := fun vs H Q _ => ∃ (a : Addr) (zs : List Str), vs = [.ref a] ∧ SqL K H a (zs.map V.str) ∧ zs.length ≤ 1000 ∧ ∀ H', Same H H' → Q (.bl (ascB zs)) H'
def spIsLot (K : PySem.W.Frag) : Sp := fun vs H Q _ => ∃ (n v : Addr) (xs zs : List Str), vs = [.ref n, .ref v] ∧ SqL K H n (xs.map V.str) ∧ H v = some (.lst (zs.map V.str)) ∧ zs.length ≤ 1000 ∧ ∀ H', Same H H' → Q (.bl (lotB xs zs)) H'
def spIsField (K : PySem.W.Frag) : Sp := fun vs H Q _ => ∃ (n v : Addr) (xs zs : List Str), vs = [.ref n, .ref v] ∧ SqL K H n (xs.map V.str) ∧ H v = some (.lst (zs.map V.str)) ∧ zs.length ≤ 1000 ∧ ∀ H', Same H H' → Q (.bl (lotB xs zs && decide (0 < zs.length))) H'
def spChkF (K : PySem.W.Frag) : Sp := fun vs H Q _ => ∃ (n v : Addr) (xs zs : List Str), vs = [.ref n, .ref v] ∧ SqL K H n (xs.map V.str) ∧ H v = some (.lst (zs.map V.str)) ∧ zs.length ≤ 1000 ∧ lotB xs zs = true ∧ 0 < zs.length ∧ ∀ H', Same H H' → Q .non H'
def spChkN (K : PySem.W.Frag) : Sp := fun vs H Q _ => ∃ (n : Addr) (xs : List Str) (z : Str), vs = [.ref n, .str z] ∧ SqL K H n (xs.map V.str) ∧ z ∈ xs ∧ Q .non H
def spIsCount : Sp := fun vs H Q _ => ∃ i : Int, vs = [.int i] ∧ Q (.bl (decide (0 ≤ i))) H
def spChkAt : Sp := fun vs H Q _ => ∃ m i : Int, vs = [.int m, .int i] ∧ 0 ≤ i ∧ i < m ∧ Q .non H
def spChkP (C : Addr) : Sp := fun vs H Q _ => ∃ (a dx : Addr) (fs : List (Str × V)), vs = [.ref a] ∧ H a = some (.ins C dx fs) ∧ Q .non H
structure LibZ (mg : Str → Option Value) : Prop where
  zip : mg "zip" = none
  enum : mg "enumerate" = none
  int : mg "int" = none
  bool : mg "bool" = none
section
variable {P : Program} {w : World} {K : PySem.W.Frag} {mg : Str → Option Value} {base : Heap} {C : Addr}
abbrev sAsc : Stmt := top 12
abbrev nAsc : List Str := ["values", "low", "high"]
theorem scAsc : FnScope nAsc ["values"] (defScope sAsc) := ⟨rfl, rfl, rfl, by decide +kernel, rfl, by decide +kernel, by decide +kernel⟩
theorem ok_asc {f : Addr} {fd : FuncData} (F : FnP K "is_ascending" sAsc f fd) (LP : LibP mg) (LZ : LibZ mg) : FnOk P w K mg base CX0 1 f fd ["values"] (spAsc K) := by
  refine okN F scAsc (fun vs H Q E h => ?_) (fun cdv A outer s H vs Q E hr h => ?_)
  · obtain ⟨_, _, rfl, _⟩ := h
    rfl
  · obtain ⟨a, zs, rfl, hS, hl, k⟩ := h
    refine ⟨_, pss_one (ps_ret (pe_callB (cr_all rfl) (by rfl) LP.all (by decide +kernel) (pa_cons
      (pe_lc (own := [("low", 1), ("high", 2)]) (g := gTup K 2 (gCons (gName 1) (gCons (gName 2) gNil))) (tt := tYes) (te := tOp (fun x y H Q => ∃ i j, x = .str i ∧ y = .str j ∧ Q (.bl (decide (i.cps.toList < j.cps.toList))) H) (tVar 1) (tVar 2)) rfl scAsc.nd
        (pi_zip (by rfl) LZ.zip (pa_cons (pv 0) (pa_cons (pe_slice sl_list (pv 0) (po_some pe_int) po_none) pa_nil)))
        (blkOk_by (N := nAsc) (sc := defScope sAsc) (by decide +kernel)) (fun _ _ _ _ _ => pg_tup (n := 2) (by rfl) (pgs_cons (pg_name (i := 1) scAsc.nd rfl (Or.inl rfl)) (pgs_cons (pg_name (i := 2) scAsc.nd rfl (Or.inl rfl)) pgs_nil))) (fun _ _ _ _ _ => pts_nil)
        (fun _ _ _ _ _ => pe_cmpR op_lt_str (pv 1) (pv 2) (by rfl))) pa_nil))), ?_⟩
    refine ⟨_, rfl, _, rfl, _, rfl, a, _, rfl, hS, fun c nc => ?_⟩
    rw [cut1, ← List.map_drop]
    have s1 : Same H (upd H c (.lst ((zs.drop 1).map V.str))) := sn nc
    have fc : upd H c (.lst ((zs.drop 1).map V.str)) c = some (.lst ((zs.drop 1).map V.str)) := upd_same
    generalize upd H c (.lst ((zs.drop 1).map V.str)) = H1 at s1 fc ⊢
    refine ⟨a, c, _, _, rfl, s1.seq hS, SqL.of fc, fun D hD => lc_zip (K := K) (a := a) (b := c) (xs := zs.map V.str) (ys := (zs.drop 1).map V.str) (by simp)
      (fun i H' => H' D = some (.lst (((zs.zip (zs.drop 1)).take i).map fun p => V.bl (ltB p.1 p.2))) ∧ Same H1 H') ⟨upd_same, sn hD⟩ (fun i H' h => ⟨(s1.trans h.2).seq hS, SqL.of (h.2 _ _ fc)⟩) ?_ ?_⟩
    · rintro i x y T H' hx hy ⟨q1, q2⟩ nT
      rw [List.getElem?_map] at hx hy
      obtain ⟨z1, h1, rfl⟩ := Option.map_eq_some_iff.mp hx
      obtain ⟨z2, h2, rfl⟩ := Option.map_eq_some_iff.mp hy
      have hz : (zs.zip (zs.drop 1))[i]? = some (z1, z2) := by
        rw [List.getElem?_zip_eq_some]
        exact ⟨h1, h2⟩
      refine ⟨T, _, rfl, SqT.of upd_same, rfl, _, _, rfl, _, _, rfl, rfl, rfl, _, rfl, _, rfl, _, _, rfl, rfl, ?_⟩
      refine ⟨_, (sn nT) _ _ q1, ?_, ?_, fun b o e => ?_⟩
      · refine small1000 ?_
        rw [List.length_map]
        have := List.length_take_le' i (zs.zip (zs.drop 1))
        rw [List.length_zip] at this
        omega
      · rw [upd_same, List.take_succ, hz, List.map_append]
        rfl
      · rw [upd_ne (ne_of_none e hD)]
        exact (sn nT) _ _ (q2 _ _ e)
    · rintro H' ⟨q1, q2⟩
      have ln : ((zs.drop 1).map V.str).length = (zs.zip (zs.drop 1)).length := by
        rw [List.length_map, List.length_zip, List.length_drop]
        omega
      rw [ln, List.take_length] at q1
      refine ⟨D, (zs.zip (zs.drop 1)).map fun p => ltB p.1 p.2, rfl, SqL.of (by rw [q1, List.map_map]; rfl), ?_⟩
      rw [List.all_map]
      exact k H' (s1.trans q2)
abbrev sIsLot : Stmt := top 14
theorem scIsLot : FnScope ["entries", "value", "name"] ["entries", "value"] (defScope sIsLot) := ⟨rfl, rfl, rfl, by decide +kernel, rfl, by decide +kernel, by decide +kernel⟩
theorem ok_isLot {f fA : Addr} {fd fdA : FuncData} (F : FnP K "is_lot" sIsLot f fd) (LP : LibP mg) (FA : FnP K "is_ascending" sAsc fA fdA) (gA : mg "is_ascending" = some (.ref fA)) (GA : FnOk P w K mg base CX0 1 fA fdA ["values"] (spAsc K)) : FnOk P w K mg base CX0 2 f fd ["entries", "value"] (spIsLot K) := by
  have bA : Binds K fdA ["values"] [] := FA.bindsN fun _ _ _ _ _ _ us hl => match us, hl with | [_], _ => rfl
  refine okN F scIsLot (fun vs H Q E h => ?_) (fun cdv A outer s H vs Q E hr h => ?_)
  · obtain ⟨_, _, _, _, rfl, _⟩ := h
    rfl
  · obtain ⟨n, v, xs, zs, rfl, hn, hv, hl, k⟩ := h
    refine ⟨_, pss_cons (ps_if (pt_not (pt_val (pe_callB call_isi (by rfl) LP.isi (by decide +kernel) (pa_cons (pv 1) (pa_cons (pe_bltn (v := .ty "list") (by rfl) LP.list (by decide +kernel) rfl) pa_nil))))) (pss_one (ps_ret pe_bl)) pss_nil)
      (pss_one (ps_ret (pe_and (pe_callB (cr_all rfl) (by rfl) LP.all (by decide +kernel) (pa_cons
          (pe_lc (own := [("name", 2)]) (g := gName 2) (tt := tYes) (te := tOp (rIn K false) (tVar 2) (tVar 0)) rfl scIsLot.nd (pi_list (pv 1))
            (blkOk_by (N := ["entries", "value", "name"]) (sc := defScope sIsLot) (by decide +kernel)) (fun _ _ _ _ _ => pg_name (i := 2) scIsLot.nd rfl (Or.inl rfl)) (fun _ _ _ _ _ => pts_nil)
            (fun _ _ _ _ _ => pe_cmpR op_in_seq (pv 2) (pv 0) (by rfl))) pa_nil))
        (pe_one (pe_call GA hr (by rfl) gA FA.kp bA .nil pass0 (pa_cons (pv 1) pa_nil)))))), ?_⟩
    refine ⟨_, rfl, .ref v, .ty "list", .type "list", .type "list", true, rfl, .ty _, .base (.lst hv), kit_ty (by decide +kernel), true, rfl, iteF ?_⟩
    refine ⟨_, rfl, v, rfl, ⟨_, SqL.of hv⟩, fun D hD => lc_list (K := K) (a := v) (xs := zs.map V.str) (fun i H' => H' D = some (.lst ((zs.take i).map fun z => V.bl (decide (z ∈ xs)))) ∧ Same H H') ⟨upd_same, sn hD⟩ (fun i H' _ h => SqL.of (h.2 _ _ hv)) ?_ ?_⟩
    · rintro i y H' hi ⟨q1, q2⟩
      rw [List.getElem?_map] at hi
      obtain ⟨z, hz, rfl⟩ := Option.map_eq_some_iff.mp hi
      refine ⟨rfl, _, rfl, _, rfl, n, xs.map V.str, rfl, .inl (q2.seq hn), rfl, flat_strs, _, q1, ?_, ?_, fun b o e => ?_⟩
      · refine small1000 ?_
        rw [List.length_map]
        have := List.length_take_le' i zs
        omega
      · rw [upd_same, List.take_succ, hz, List.map_append, inV_str]
        rfl
      · rw [upd_ne (ne_of_none e hD)]
        exact q2 _ _ e
    · rintro H' ⟨q1, q2⟩
      rw [List.length_map, List.take_length] at q1
      refine ⟨D, zs.map fun z => decide (z ∈ xs), rfl, SqL.of (by rw [q1, List.map_map]; rfl), _, rfl, ?_⟩
      rw [List.all_map]
      refine ite2 (fun h1 => ?_) (fun h1 => ?_)
      · refine ⟨_, rfl, v, zs, rfl, SqL.of (q2 _ _ hv), hl, fun H2 s2 => ?_⟩
        have e : lotB xs zs = ascB zs := by
          unfold lotB
          rw [show zs.all (fun z => decide (z ∈ xs)) = true from h1, Bool.true_and]
        rw [← e]
        exact k H2 (q2.trans s2)
      · have e : lotB xs zs = false := by
          unfold lotB
          rw [show zs.all (fun z => decide (z ∈ xs)) = false from Bool.eq_false_iff.mpr h1, Bool.false_and]
        rw [e] at k
        exact k H' q2
abbrev sIsField : Stmt := top 15
theorem scIsField : FnScope ["entries", "value"] ["entries", "value"] (defScope sIsField) := ⟨rfl, rfl, rfl, by decide +kernel, rfl, by decide +kernel, by decide +kernel⟩
theorem ok_isField {f fA : Addr} {fd fdA : FuncData} (F : FnP K "is_field" sIsField f fd) (L : Lib K mg) (FA : FnP K "is_lot" sIsLot fA fdA) (gA : mg "is_lot" = some (.ref fA)) (GA : FnOk P w K mg base CX0 2 fA fdA ["entries", "value"] (spIsLot K)) : FnOk P w K mg base CX0 3 f fd ["entries", "value"] (spIsField K) := by
  have bA : Binds K fdA ["entries", "value"] [] := FA.bindsN fun _ _ _ _ _ _ us hl => match us, hl with | [_, _], _ => rfl
  refine okN F scIsField (fun vs H Q E h => ?_) (fun cdv A outer s H vs Q E hr h => ?_)
  · obtain ⟨_, _, _, _, rfl, _⟩ := h
    rfl
  · obtain ⟨n, v, xs, zs, rfl, hn, hv, hl, k⟩ := h
    refine ⟨_, pss_one (ps_ret (pe_and (pe_call GA hr (by rfl) gA FA.kp bA .nil pass0 (pa_cons (pv 0) (pa_cons (pv 1) pa_nil))) (pe_one (pe_cmpR op_gt (pe_callB call_len_seq (by rfl) L.len PySem.boot_len (pa_cons (pv 1) pa_nil)) pe_int (nomark _))))), ?_⟩
    refine ⟨_, rfl, _, rfl, n, v, xs, zs, rfl, hn, hv, hl, fun H1 s1 => ⟨_, rfl, ?_⟩⟩
    cases e : lotB xs zs with
    | false =>
      rw [e] at k
      exact iteF (k H1 s1)
    | true =>
      refine iteT ⟨_, rfl, v, _, rfl, .inl (SqL.of (s1 _ _ hv)), _, _, rfl, rfl, ?_⟩
      rw [List.length_map]
      have e2 : decide ((0 : Int) < (zs.length : Int)) = decide (0 < zs.length) := by
        by_cases q : 0 < zs.length
        · rw [decide_eq_true q, decide_eq_true (by omega)]
        · rw [decide_eq_false q, decide_eq_false (by omega)]
      rw [e, Bool.true_and, ← e2] at k
      exact k H1 s1
abbrev sChkF : Stmt := top 21
theorem scChkF : FnScope ["entries", "field"] ["entries", "field"] (defScope sChkF) := ⟨rfl, rfl, rfl, by decide +kernel, rfl, by decide +kernel, by decide +kernel⟩
theorem ok_chkF {f fA : Addr} {fd fdA : FuncData} (F : FnP K "check_field" sChkF f fd) (FA : FnP K "is_field" sIsField fA fdA) (gA : mg "is_field" = some (.ref fA)) (GA : FnOk P w K mg base CX0 3 fA fdA ["entries", "value"] (spIsField K)) : FnOk P w K mg base CX0 4 f fd ["entries", "field"] (spChkF K) := by
  have bA : Binds K fdA ["entries", "value"] [] := FA.bindsN fun _ _ _ _ _ _ us hl => match us, hl with | [_, _], _ => rfl
  refine okN F scChkF (fun vs H Q E h => ?_) (fun cdv A outer s H vs Q E hr h => ?_)
  · obtain ⟨_, _, _, _, rfl, _⟩ := h
    rfl
  · obtain ⟨n, v, xs, zs, rfl, hn, hv, hl, h1, h2, k⟩ := h
    refine ⟨_, pss_one (ps_if (pt_not (pt_val (pe_call GA hr (by rfl) gA FA.kp bA .nil pass0 (pa_cons (pv 0) (pa_cons (pv 1) pa_nil))))) (pss_one ps_never) pss_nil), ?_⟩
    refine ⟨_, rfl, _, rfl, n, v, xs, zs, rfl, hn, hv, hl, fun H1 s1 => ⟨_, rfl, ?_⟩⟩
    rw [h1, decide_eq_true h2]
    exact k H1 s1
abbrev sChkN : Stmt := top 20
theorem scChkN : FnScope ["entries", "entry"] ["entries", "entry"] (defScope sChkN) := ⟨rfl, rfl, rfl, by decide +kernel, rfl, by decide +kernel, by decide +kernel⟩
theorem ok_chkN {f : Addr} {fd : FuncData} (F : FnP K "check_entry" sChkN f fd) : FnOk P w K mg base CX0 1 f fd ["entries", "entry"] (spChkN K) := by
  refine okN F scChkN (fun vs H Q E h => ?_) (fun cdv A outer s H vs Q E hr h => ?_)
  · obtain ⟨_, _, _, rfl, _⟩ := h
    rfl
  · obtain ⟨n, xs, z, rfl, hn, hz, k⟩ := h
    refine ⟨_, pss_one (ps_if (pt_cmpR op_notIn_seq (pv 1) (pv 0) (by rfl)) (pss_one ps_never) pss_nil), ?_⟩
    refine ⟨_, rfl, _, rfl, n, xs.map V.str, rfl, .inl hn, rfl, flat_strs, ?_⟩
    rw [if_pos rfl, inV_str, decide_eq_true hz]
    exact ⟨_, rfl, k⟩
abbrev sChkP : Stmt := top 24
theorem scChkP : FnScope ["panel"] ["panel"] (defScope sChkP) := ⟨rfl, rfl, rfl, by decide +kernel, rfl, by decide +kernel, by decide +kernel⟩
theorem ok_chkP {f : Addr} {fd : FuncData} (F : FnP K "check_panel" sChkP f fd) (LP : LibP mg) (PC : PanX K C) (gP : mg "Panel" = some (.ref C)) : FnOk P w K mg base CX0 1 f fd ["panel"] (spChkP C) := by
  refine okN F scChkP (fun vs H Q E h => ?_) (fun cdv A outer s H vs Q E hr h => ?_)
  · obtain ⟨_, _, _, rfl, _⟩ := h
    rfl
  · obtain ⟨a, dx, fs, rfl, ha, k⟩ := h
    refine ⟨_, pss_one (ps_if (pt_not (pt_val (pe_callB call_isi (by rfl) LP.isi (by decide +kernel) (pa_cons (pv 0) (pa_cons (pe_glob (v := .ref C) (by rfl) gP rfl) pa_nil))))) (pss_one ps_never) pss_nil), ?_⟩
    exact ⟨_, rfl, .ref a, .ref C, .ref C, .ref C, true, rfl, .own C, .base (.ins ha PC.cls PC.cc PC.sg PC.tk PC.mo), PC.me, _, rfl, k⟩
end
end K24

set_option maxHeartbeats 8000000
namespace K24
open PySem PySem.Spec PyProof.Rows L2 G1
/-- the first one of a row that is in a field -/
def fst? (fs r : List Str) : Option Str := r.find? fun y => decide (y ∈ fs)
def fstD (fs r : List Str) : Str := (fst? fs r).getD Str.empty
theorem find_at {p : Str → Bool} : ∀ {r : List Str} {i : Nat} {y : Str}, (r.take i).find? p = none → r[i]? = some y → p y = true → r.find? p = some y
  | [], _, _, _, e, _ => by simp at e
  | x :: r, 0, y, _, e, h => by
    have e2 : x = y := by simpa using e
    rw [e2, List.find?_cons_of_pos h]
  | x :: r, i + 1, y, n, e, h => by
    rw [List.take_succ_cons] at n
    have px : p x = false := by
      cases q : p x with
      | false => rfl
      | true =>
        rw [List.find?_cons_of_pos q] at n
        cases n
    rw [List.find?_cons_of_neg (by rw [px]; exact Bool.false_ne_true)] at n ⊢
    exact find_at n (by simpa using e) h
theorem find_next {p : Str → Bool} {r : List Str} {i : Nat} {y : Str} (n : (r.take i).find? p = none) (e : r[i]? = some y) (h : p y = false) : (r.take (i + 1)).find? p = none := by
  rw [List.take_succ, e, List.find?_append, n]
  show List.find? p [y] = none
  rw [List.find?_cons_of_neg (by rw [h]; exact Bool.false_ne_true)]
  rfl
theorem fst_some {fs r : List Str} {z : Str} (h1 : z ∈ r) (h2 : z ∈ fs) : ∃ y, fst? fs r = some y := by
  cases e : fst? fs r with
  | some y => exact ⟨y, rfl⟩
  | none =>
    have := List.find?_eq_none.mp e z h1
    exact absurd (decide_eq_true h2) this
theorem fst_mem {fs r : List Str} {z : Str} (h : fst? fs r = some z) : z ∈ r ∧ z ∈ fs := by
  have h2 : r.find? (fun y => decide (y ∈ fs)) = some z := h
  have h3 := List.find?_some h2
  exact ⟨List.mem_of_find?_eq_some h2, of_decide_eq_true h3⟩
theorem fstD_of {fs r : List Str} {z : Str} (h : fst? fs r = some z) : fstD fs r = z := by
  unfold fstD
  rw [h]
  rfl
def spFirst (K : PySem.W.Frag) : Sp := fun vs H Q _ => ∃ (r f : Addr) (rs fs : List Str) (z : Str), vs = [.ref r, .ref f] ∧ SqL K H r (rs.map V.str) ∧ SqL K H f (fs.map V.str) ∧ fst? fs rs = some z ∧ Q (.str z) H
def spCardsOn (K : PySem.W.Frag) : Sp := fun vs H Q _ => ∃ (R f : Addr) (as : List Addr) (rs : List (List Str)) (fs : List Str), vs = [.ref R, .ref f] ∧ H R = some (.lst (as.map V.ref)) ∧ RowsAt H as rs ∧ SqL K H f (fs.map V.str) ∧ (∀ r ∈ rs, ∃ z, fst? fs r = some z) ∧ rs.length ≤ 60 ∧
  ∀ (ys : List Str) (D : Addr) (H' : Hp), Same H H' → H D = none → H' D = some (.lst (ys.map V.str)) → sortedS ys = true → ys.Nodup → (∀ z, z ∈ ys ↔ z ∈ rs.map (fstD fs)) → ys.length ≤ rs.length → Q (.ref D) H'
/-- a panel of xs, rs, whose methods can be called -/
structure PanF (H : Hp) (C a : Addr) (xs : List Str) (rs : List (List Str)) : Prop where
  at_ : PanelAt H C a xs rs
  fre : Fre H C a
  le : rs.length ≤ 60
theorem PanF.same {H H' : Hp} {C a : Addr} {xs : List Str} {rs : List (List Str)} (h : PanF H C a xs rs) (s : Same H H') : PanF H' C a xs rs := ⟨h.at_.same s, h.fre.same s, h.le⟩
/-- a field that is right -/
structure FieldAt (H : Hp) (f : Addr) (xs fs : List Str) : Prop where
  at_ : H f = some (.lst (fs.map V.str))
  lot : lotB xs fs = true
  pos : 0 < fs.length
  le : fs.length ≤ 1000
theorem FieldAt.same {H H' : Hp} {f : Addr} {xs fs : List Str} (h : FieldAt H f xs fs) (s : Same H H') : FieldAt H' f xs fs := ⟨s _ _ h.at_, h.lot, h.pos, h.le⟩
theorem FieldAt.sub {H : Hp} {f : Addr} {xs fs : List Str} (h : FieldAt H f xs fs) {z : Str} (hz : z ∈ fs) : z ∈ xs := by
  have q := h.lot
  unfold lotB at q
  exact of_decide_eq_true (List.all_eq_true.mp (He.ba q).1 z hz)
theorem FieldAt.fst {H : Hp} {f : Addr} {xs fs r : List Str} (h : FieldAt H f xs fs) (p : r.Perm xs) : ∃ z, fst? fs r = some z := by
  cases fs with
  | nil => exact absurd h.pos (by simp)
  | cons z fs => exact fst_some (p.mem_iff.mpr (h.sub List.mem_cons_self)) List.mem_cons_self
def spNamed (C : Addr) : Sp := fun vs H Q _ => ∃ (a f : Addr) (i : Nat) (xs fs : List Str) (rs : List (List Str)) (r : List Str) (z : Str), vs = [.ref a, .int (i : Int), .ref f] ∧ PanF H C a xs rs ∧ FieldAt H f xs fs ∧ rs[i]? = some r ∧ fst? fs r = some z ∧ ∀ H', Same H H' → Q (.str z) H'
def spCards (C : Addr) : Sp := fun vs H Q _ => ∃ (a f : Addr) (xs fs : List Str) (rs : List (List Str)), vs = [.ref a, .ref f] ∧ PanF H C a xs rs ∧ FieldAt H f xs fs ∧ (∀ r ∈ rs, r.Perm xs) ∧
  ∀ (ys : List Str) (D : Addr) (H' : Hp), Same H H' → H D = none → H' D = some (.lst (ys.map V.str)) → sortedS ys = true → ys.Nodup → (∀ z, z ∈ ys ↔ z ∈ rs.map (fstD fs)) → ys.length ≤ rs.length → Q (.ref D) H'
/-- at whose rows the first one is z -/
def whoL (fs : List Str) (rs : List (List Str)) (z : Str) : List Nat := (List.range rs.length).filter fun j => decide (fstD fs (rs.getD j []) = z)
def natsV (ns : List Nat) : List V := ns.map fun (j : Nat) => V.int (j : Int)
def spWho (C : Addr) : Sp := fun vs H Q _ => ∃ (a f : Addr) (xs fs : List Str) (rs : List (List Str)) (z : Str), vs = [.ref a, .ref f, .str z] ∧ PanF H C a xs rs ∧ FieldAt H f xs fs ∧ (∀ r ∈ rs, r.Perm xs) ∧ z ∈ xs ∧
  ∀ (D : Addr) (H' : Hp), Same H H' → H D = none → H' D = some (.lst (natsV (whoL fs rs z))) → Q (.ref D) H'
def spAhead (C : Addr) : Sp := fun vs H Q _ => ∃ (a : Addr) (i : Nat) (xs : List Str) (rs : List (List Str)) (r : List Str) (z : Str), vs = [.ref a, .int (i : Int), .str z] ∧ PanF H C a xs rs ∧ rs[i]? = some r ∧ r.length ≤ 60 ∧ z ∈ xs ∧ z ∈ r ∧
  ∀ (ys : List Str) (D : Addr) (H' : Hp), Same H H' → H D = none → H' D = some (.lst (ys.map V.str)) → sortedS ys = true → ys.Perm (r.take (r.idxOf z)) → Q (.ref D) H'
def spPlaces (C : Addr) : Sp := fun vs H Q _ => ∃ (a : Addr) (xs : List Str) (rs : List (List Str)) (z : Str), vs = [.ref a, .str z] ∧ PanF H C a xs rs ∧ (∀ r ∈ rs, z ∈ r) ∧ z ∈ xs ∧
  ∀ (D : Addr) (H' : Hp), Same H H' → H D = none → H' D = some (.lst (natsV (rs.map fun r => r.idxOf z))) → Q (.ref D) H'
/-- row.index(z) -/
theorem idx_ok {r : List Str} {z : Str} (hz : z ∈ r) : (r.map V.str)[r.idxOf z]? = some (.str z) ∧ eqV (.str z) (.str z) = true ∧ ∀ (m : Nat) (y : V), m < r.idxOf z → (r.map V.str)[m]? = some y → eqV y (.str z) = false := by
  have lt := List.idxOf_lt_length_of_mem hz
  refine ⟨?_, ?_, fun m y lm e => ?_⟩
  · rw [List.getElem?_map, List.getElem?_eq_getElem lt, List.getElem_idxOf lt]
    rfl
  · show ((z == z : Bool)) = true
    exact beq_self_eq_true z
  · rw [List.getElem?_map] at e
    obtain ⟨x, hx, rfl⟩ := Option.map_eq_some_iff.mp e
    show ((x == z : Bool)) = false
    have lm2 : m < r.length := by omega
    rw [List.getElem?_eq_getElem lm2] at hx
    have hx2 : r[m] = x := Option.some.inj hx
    have := List.not_of_lt_findIdx (p := (· == z)) (xs := r) lm
    rw [← hx2]
    simpa using this
section
variable {P : Program} {w : World} {K : PySem.W.Frag} {mg : Str → Option Value} {base : Heap} {C fLn : Addr} {fdLn : FuncData}
abbrev sFirst : Stmt := top 25
theorem scFirst : FnScope ["row", "field", "name"] ["row", "field"] (defScope sFirst) := ⟨rfl, rfl, rfl, by decide +kernel, rfl, by decide +kernel, by decide +kernel⟩
theorem ok_first {f : Addr} {fd : FuncData} (F : FnP K "first_there" sFirst f fd) : FnOk P w K mg base CX0 1 f fd ["row", "field"] (spFirst K) := by
  refine okN F scFirst (fun vs H Q E h => ?_) (fun cdv A outer s H vs Q E hr h => ?_)
  · obtain ⟨_, _, _, _, _, rfl, _⟩ := h
    rfl
  · obtain ⟨r, f, rs, fs, z, rfl, hR, hF, hz, k⟩ := h
    refine ⟨_, pss_cons (ps_for PassesOwn.never rfl (pi_list (pv 0)) (pg_name (i := 2) scFirst.nd rfl (Or.inl rfl)) (pss_one (ps_if (pt_cmpR op_in_seq (pv 2) (pv 1) (by rfl)) (pss_one (ps_ret (pv 2))) pss_nil))) (pss_one ps_never), ?_⟩
    refine ⟨_, rfl, r, rfl, ⟨_, hR⟩, for_list (K := K) (a := r) (xs := rs.map V.str) (fun i σ H' => H' = H ∧ (∃ o, σ = [some (.ref r), some (.ref f), o]) ∧ (rs.take i).find? (fun y => decide (y ∈ fs)) = none) ⟨rfl, ⟨none, rfl⟩, rfl⟩ (fun i σ H' _ h => by rw [h.1]; exact hR) ?_ ?_⟩
    · rintro i y σ H' hi ⟨rfl, ⟨o, rfl⟩, n⟩
      rw [List.getElem?_map] at hi
      obtain ⟨x, hx, rfl⟩ := Option.map_eq_some_iff.mp hi
      refine ⟨_, rfl, _, rfl, f, fs.map V.str, rfl, .inl hF, rfl, flat_strs, _, rfl, ?_⟩
      rw [if_neg Bool.false_ne_true, inV_str]
      refine ite2 (fun e => ?_) (fun e => ?_)
      · have q : fst? fs rs = some x := find_at n hx e
        rw [hz] at q
        cases q
        exact ⟨_, rfl, k⟩
      · exact ⟨rfl, ⟨_, rfl⟩, find_next n hx (Bool.eq_false_iff.mpr e)⟩
    · rintro σ H' ⟨rfl, _, n⟩
      rw [List.length_map, List.take_length] at n
      have q : fst? fs rs = none := n
      rw [hz] at q
      cases q
abbrev sCardsOn : Stmt := top 26
theorem scCardsOn : FnScope ["rows", "field", "row"] ["rows", "field"] (defScope sCardsOn) := ⟨rfl, rfl, rfl, by decide +kernel, rfl, by decide +kernel, by decide +kernel⟩
theorem ok_cardsOn {f fF : Addr} {fd fdF : FuncData} (F : FnP K "cards_on" sCardsOn f fd) (LP : LibP mg) (FF : FnP K "first_there" sFirst fF fdF) (gF : mg "first_there" = some (.ref fF)) (GF : FnOk P w K mg base CX0 1 fF fdF ["row", "field"] (spFirst K)) :
    FnOk P w K mg base CX0 2 f fd ["rows", "field"] (spCardsOn K) := by
  have bF : Binds K fdF ["row", "field"] [] := FF.bindsN fun _ _ _ _ _ _ us hl => match us, hl with | [_, _], _ => rfl
  refine okN F scCardsOn (fun vs H Q E h => ?_) (fun cdv A outer s H vs Q E hr h => ?_)
  · obtain ⟨_, _, _, _, _, rfl, _⟩ := h
    rfl
  · obtain ⟨R, f, as, rs, fs, rfl, hR, hra, hF, hz, le, k⟩ := h
    refine ⟨_, pss_one (ps_ret (pe_sortS (by rfl) (by rfl) LP.sorted (by rfl) LP.set
        (pe_lc (own := [("row", 2)]) (g := gName 2) (tt := tYes) (te := tCall (spFirst K) [] E0 (tCons (tVar 2) (tCons (tVar 1) tNil))) rfl scCardsOn.nd (pi_list (pv 0))
          (blkOk_by (N := ["rows", "field", "row"]) (sc := defScope sCardsOn) (by decide +kernel)) (fun _ _ _ _ _ => pg_name (i := 2) scCardsOn.nd rfl (Or.inl rfl)) (fun _ _ _ _ _ => pts_nil)
          (fun _ _ _ _ _ => pe_call GF hr (by rfl) gF FF.kp bF .nil pass0 (pa_cons (pv 2) (pa_cons (pv 1) pa_nil)))))), ?_⟩
    refine ⟨_, rfl, R, rfl, ⟨_, SqL.of hR⟩, fun D hD => lc_list (K := K) (a := R) (xs := as.map V.ref) (fun i H' => H' D = some (.lst (((rs.take i).map (fstD fs)).map V.str)) ∧ Same H H') ⟨upd_same, sn hD⟩ (fun i H' _ h => SqL.of (h.2 _ _ hR)) ?_ ?_⟩
    · rintro i y H' hi ⟨q1, q2⟩
      rw [List.getElem?_map] at hi
      obtain ⟨c, hc, rfl⟩ := Option.map_eq_some_iff.mp hi
      obtain ⟨r, hr1, hr2⟩ := hra.at hc
      obtain ⟨z, hz1⟩ := hz r (List.mem_of_getElem? hr1)
      refine ⟨rfl, _, rfl, _, rfl, c, f, r, fs, z, rfl, SqL.of (q2 _ _ hr2), q2.seq hF, hz1, _, q1, ?_, ?_, fun b o e => ?_⟩
      · refine small1000 ?_
        rw [List.length_map, List.length_map]
        have := List.length_take_le' i rs
        omega
      · rw [upd_same, List.take_succ, hr1, List.map_append, List.map_append]
        show _ = some (HO.lst (_ ++ [V.str (fstD fs r)]))
        rw [fstD_of hz1]
      · rw [upd_ne (ne_of_none e hD)]
        exact q2 _ _ e
    · rintro H' ⟨q1, q2⟩
      rw [List.length_map, hra.len, List.take_length] at q1
      refine ⟨D, rs.map (fstD fs), rfl, SqL.of q1, by rw [List.length_map]; omega, fun ys p so nd hm ly np => ?_⟩
      rw [List.length_map] at ly
      exact k ys p _ (q2.trans (sn np)) (q2.free np) upd_same so nd hm ly
end
end K24

set_option maxHeartbeats 8000000
namespace K24
open PySem PySem.Spec PyProof.Rows L2 G1
/-- the bit of a name -/
def bitV (xs : List Str) (x : Str) : V := .int ((2 ^ xs.idxOf x : Nat) : Int)
theorem idx_at {xs : List Str} (nd : xs.Nodup) {i : Nat} {x : Str} (h : xs[i]? = some x) : xs.idxOf x = i := by
  obtain ⟨hi, e⟩ := List.getElem?_eq_some_iff.mp h
  have hm : x ∈ xs := List.mem_of_getElem? h
  have hl := List.idxOf_lt_length_of_mem hm
  have e2 : xs[xs.idxOf x] = x := List.getElem_idxOf hl
  rcases Nat.lt_trichotomy (xs.idxOf x) i with q | q | q
  · exact absurd (e2.trans e.symm) (List.pairwise_iff_getElem.mp nd _ _ hl hi q)
  · exact q
  · exact absurd (e.trans e2.symm) (List.pairwise_iff_getElem.mp nd _ _ hi hl q)
theorem bit_msk {xs : List Str} (nd : xs.Nodup) {x : Str} (h : x ∈ xs) : 2 ^ xs.idxOf x = msk (fun y => y == x) xs := by
  have hl := List.idxOf_lt_length_of_mem h
  exact (msk_one nd (by rw [List.getElem?_eq_getElem hl, List.getElem_idxOf hl])).symm
def spBits : Sp := fun vs H Q _ => ∃ (e : Addr) (xs : List Str), vs = [.ref e] ∧ H e = some (.lst (xs.map V.str)) ∧ xs.Nodup ∧ xs.length ≤ 40 ∧ ∀ (D : Addr) (H' : Hp), Same H H' → H D = none → H' D = some (.dK (dN xs (bitV xs))) → Q (.ref D) H'
section
variable {P : Program} {w : World} {K : PySem.W.Frag} {mg : Str → Option Value} {base : Heap} {C : Addr}
end
end K24

set_option maxHeartbeats 8000000
namespace K24
open PySem PySem.Spec PyProof.Rows L2 G1
/-- who is ahead of z in a row, as a mask -/
def aheadM (xs row : List Str) (z : Str) : Nat := msk (fun y => decide (y ∈ row.take (row.idxOf z))) xs
def aheadV (xs row : List Str) (z : Str) : V := .int ((aheadM xs row z : Nat) : Int)
theorem msk_step {xs row : List Str} (nd : xs.Nodup) {i : Nat} {z : Str} (h : row[i]? = some z) (hz : z ∈ xs) :
    Builtin.bitOr ((msk (fun y => decide (y ∈ row.take i)) xs : Nat) : Int) ((2 ^ xs.idxOf z : Nat) : Int) = ((msk (fun y => decide (y ∈ row.take (i + 1))) xs : Nat) : Int) := by
  rw [bor_nat, bit_msk nd hz, msk_or]
  congr 1
  refine msk_inj.mpr fun x _ => ?_
  rw [List.take_succ, h]
  by_cases e : x = z
  · subst e
    simp
  · simp [e]
def spMAhead : Sp := fun vs H Q _ => ∃ (b r : Addr) (xs row : List Str), vs = [.ref b, .ref r] ∧ H b = some (.dK (dN xs (bitV xs))) ∧ H r = some (.lst (row.map V.str)) ∧ xs.Nodup ∧ row.Nodup ∧ (∀ z ∈ row, z ∈ xs) ∧ row.length ≤ 40 ∧
  ∀ (D : Addr) (H' : Hp), Same H H' → H D = none → H' D = some (.dK (dN row (aheadV xs row))) → Q (.ref D) H'
section
variable {P : Program} {w : World} {K : PySem.W.Frag} {mg : Str → Option Value} {base : Heap} {C : Addr}
end
end K24

set_option maxHeartbeats 8000000
namespace K24
open PySem PySem.Spec PyProof.Rows L2 G1
/-- a def of the text, where it stands, what it promises -/
structure Df (P : Program) (w : World) (K : PySem.W.Frag) (mg : Str → Option Value) (base : Heap) (k : Nat) (x : Str) (st : Stmt) (ps : List Str) (sp : Sp) : Prop where
  ex : ∃ (f : Addr) (fd : FuncData), FnP K x st f fd ∧ mg x = some (.ref f) ∧ FnOk P w K mg base CX0 k f fd ps sp ∧ Binds K fd ps []
theorem pe_df {X : Cx} {k : Nat} {x : Str} {st : Stmt} {ps : List Str} {sp : Sp} {e : Expr} {es : List Expr} {t : TA} {p pos : Pos} (D : Df X.prog X.w X.K X.mg X.base k x st ps sp) (hr : Room k X.A) (hg : Gl X x) (ha : PA X (e :: es) t)
    (hdb : (x == ("__debug__" : Str)) = false := by decide) (he : starEach (e :: es) X.env = (false, eval e X.env) :: starEach es X.env := by rfl) (hpl : (backTo pos (starEach es X.env)).any (·.1) = false := by rfl) :
    PE X (.Call (.Name x p) (e :: es) [] pos) (tCall sp [] E0 t) := by
  obtain ⟨f, fd, F, g, G, b⟩ := D.ex
  exact pe_call G hr hg g F.kp b .nil pass0 ha hdb he hpl
theorem pe_df0 {X : Cx} {k : Nat} {x : Str} {st : Stmt} {ps : List Str} {sp : Sp} {p pos : Pos} (D : Df X.prog X.w X.K X.mg X.base k x st ps sp) (hr : Room k X.A) (hg : Gl X x) (hdb : (x == ("__debug__" : Str)) = false := by decide) :
    PE X (.Call (.Name x p) [] [] pos) (tCall sp [] E0 tNil) := by
  obtain ⟨f, fd, F, g, G, b⟩ := D.ex
  exact pe_call0 G hr hg g F.kp b .nil pass0 hdb
/-- a method without arguments -/
structure Mt (P : Program) (w : World) (K : PySem.W.Frag) (mg : Str → Option Value) (base : Heap) (C : Addr) (m : Str) (sp : Sp) : Prop where
  ex : ∃ (f : Addr) (fd : FuncData), Meth K C m f ∧ FnOk P w K mg base CX0 1 f fd ["self"] sp ∧ Binds K fd ["self"] []
/-- what is known of the class Panel where it is used -/
structure PanP (P : Program) (w : World) (K : PySem.W.Frag) (mg : Str → Option Value) (base : Heap) (C : Addr) : Prop where
  cls : Cls K C
  en : Mt P w K mg base C "entries" (spEnt C)
  rw : Mt P w K mg base C "rows" (spRws C)
  ln : ∃ (f : Addr) (fd : FuncData), PySem.W.findIn K (.ref C) "__len__" = some (some (.ref f)) ∧ PySem.W.isFn K (.ref f) = true ∧ FnOk P w K mg base CX0 1 f fd ["self"] (spLen C) ∧ Binds K fd ["self"] []
theorem pe_mt {X : Cx} {C : Addr} {m : Str} {sp : Sp} {o : Expr} {ta : TE} {apos pos : Pos} {pl : Sem Bool} (he : PE X o ta) (c : Cls X.K C) (M : Mt X.prog X.w X.K X.mg X.base C m sp) (hr : Room 1 X.A)
    (ht : eval (.Call (.Attribute o m apos) [] [] pos) X.env = (do
      let ov ← eval o X.env
      standAt apos.atName
      let (f, first) ← holding [ov] (getMethod ov m pl)
      callWith pos f first (backTo pos (starEach [] X.env)) (backToKw pos (keywordEach [] X.env))) := by rfl) : PE X (.Call (.Attribute o m apos) [] [] pos) (tMeth C m sp [] E0 ta tNil) := by
  obtain ⟨f, fd, M1, G, b⟩ := M.ex
  exact pe_meth0 he c M1 G hr b .nil pass0 ht
theorem call_lenP {X : Cx} {C : Addr} (N : PanP X.prog X.w X.K X.mg X.base C) (hr : Room 2 X.A) : CallR X (.builtin "len") (rLenO C (spLen C)) := by
  obtain ⟨f, fd, h1, h2, G, b⟩ := N.ln
  exact call_lenO G hr h1 h2 b
theorem RowsAt.adr {H : Hp} {as : List Addr} {rs : List (List Str)} (h : RowsAt H as rs) : ∀ {i : Nat} {r : List Str}, rs[i]? = some r → ∃ c, as[i]? = some c ∧ H c = some (.lst (r.map V.str)) := by
  induction h with
  | nil => intro i r e; simp at e
  | @cons a r0 as rs h0 _ ih =>
    intro i r e
    match i, e with
    | 0, e =>
      have e2 : r0 = r := by simpa using e
      exact ⟨a, rfl, e2 ▸ h0⟩
    | i + 1, e => exact ih (by simpa using e)
section
variable {P : Program} {w : World} {K : PySem.W.Frag} {mg : Str → Option Value} {base : Heap} {C : Addr}
abbrev sCards : Stmt := top 27
theorem scCards : FnScope ["panel", "field"] ["panel", "field"] (defScope sCards) := ⟨rfl, rfl, rfl, by decide +kernel, rfl, by decide +kernel, by decide +kernel⟩
theorem ok_cards {f : Addr} {fd : FuncData} (F : FnP K "cards" sCards f fd) (N : PanP P w K mg base C) (DP : Df P w K mg base 1 "check_panel" sChkP ["panel"] (spChkP C))
    (DF : Df P w K mg base 4 "check_field" sChkF ["entries", "field"] (spChkF K)) (D1 : Df P w K mg base 2 "cards_on" sCardsOn ["rows", "field"] (spCardsOn K)) : FnOk P w K mg base CX0 5 f fd ["panel", "field"] (spCards C) := by
  refine okN F scCards (fun vs H Q E h => ?_) (fun cdv A outer s H vs Q E hr h => ?_)
  · obtain ⟨_, _, _, _, _, rfl, _⟩ := h
    rfl
  · obtain ⟨a, fa, xs, fs, rs, rfl, ⟨pan, fre, le⟩, hf, hp, k⟩ := h
    obtain ⟨dx, gs, fr1, fr2, fr3, fr4⟩ := fre
    refine ⟨_, pss_cons (ps_expr (pe_df DP (hr.mono (by decide)) (by rfl) (pa_cons (pv 0) pa_nil)))
      (pss_cons (ps_expr (pe_df DF hr (by rfl) (pa_cons (pe_mt (pv 0) N.cls N.en (hr.mono (by decide))) (pa_cons (pv 1) pa_nil))))
      (pss_one (ps_ret (pe_df D1 (hr.mono (by decide)) (by rfl) (pa_cons (pe_mt (pv 0) N.cls N.rw (hr.mono (by decide))) (pa_cons (pv 1) pa_nil)))))), ?_⟩
    refine ⟨_, rfl, a, dx, gs, rfl, fr1, ?_⟩
    refine ⟨_, rfl, a, dx, gs, rfl, fr1, fr2, a, xs, rs, rfl, pan, fun D H1 s1 nD hD => ⟨_, rfl, D, fa, xs, fs, rfl, SqL.of hD, s1 _ _ hf.at_, hf.le, hf.lot, hf.pos, fun H2 s2 => ?_⟩⟩
    have s12 := s1.trans s2
    refine ⟨_, rfl, a, dx, gs, rfl, s12 _ _ fr1, fr3, a, xs, rs, rfl, pan.same s12, le, fun D2 as H3 s3 nD2 hD2 has _ _ => ?_⟩
    have s13 := s12.trans s3
    refine ⟨_, rfl, D2, fa, as, rs, fs, rfl, hD2, has, SqL.of (s13 _ _ hf.at_), fun r hr => hf.fst (hp r hr), le, fun ys D3 H4 s4 nD3 hD3 so nd hm ly => ?_⟩
    exact k ys D3 H4 (s13.trans s4) (s13.free nD3) hD3 so nd hm ly
end
end K24

set_option maxHeartbeats 8000000
namespace K24
open PySem PySem.Spec PyProof.Rows L2 G1
/-- numbers of masks in a list -/
def mskV (ms : List Nat) : List V := ms.map fun (m : Nat) => V.int (m : Int)
/-- n has nothing but what m has -/
def inB (n m : Nat) : Bool := n - (n &&& m) == 0
def holdB (m : Nat) (ms : List Nat) : Bool := ms.any fun n => inB n m
def leastS (acc : List Nat) (m : Nat) : List Nat := if holdB m acc then acc else acc ++ [m]
/-- the least of some masks, from the smallest number on -/
def leastM (ys : List Nat) : List Nat := ys.foldl leastS []
theorem leastS_len {acc : List Nat} {m : Nat} : (leastS acc m).length ≤ acc.length + 1 := by
  unfold leastS
  split
  · omega
  · rw [List.length_append]
    simp
theorem leastM_len : ∀ (ys acc : List Nat), (ys.foldl leastS acc).length ≤ acc.length + ys.length
  | [], acc => by simp
  | y :: ys, acc => by
    have h := leastM_len ys (leastS acc y)
    have h2 := leastS_len (acc := acc) (m := y)
    show (ys.foldl leastS (leastS acc y)).length ≤ _
    rw [List.length_cons]
    omega
def spHolds (K : PySem.W.Frag) : Sp := fun vs H Q _ => ∃ (m : Nat) (l : Addr) (ms : List Nat), vs = [.int (m : Int), .ref l] ∧ H l = some (.lst (mskV ms)) ∧ ms.length ≤ 900 ∧ ∀ H', Same H H' → Q (.bl (holdB m ms)) H'
def spLeast (K : PySem.W.Frag) : Sp := fun vs H Q _ => ∃ (l : Addr) (ms : List Nat), vs = [.ref l] ∧ H l = some (.lst (mskV ms)) ∧ ms.length ≤ 900 ∧
  ∀ (D : Addr) (ys : List Nat) (H' : Hp), Same H H' → H D = none → ys.Pairwise (· ≤ ·) → ys.Nodup → (∀ m, m ∈ ys ↔ m ∈ ms) → ys.length ≤ ms.length → H' D = some (.lst (mskV (leastM ys))) → Q (.ref D) H'
section
variable {P : Program} {w : World} {K : PySem.W.Frag} {mg : Str → Option Value} {base : Heap} {C : Addr}
end
end K24

set_option maxHeartbeats 8000000
namespace K24
open PySem PySem.Spec PyProof.Rows L2 G1
section
variable {P : Program} {w : World} {K : PySem.W.Frag} {mg : Str → Option Value} {base : Heap} {C : Addr}
abbrev sPlaces : Stmt := top 28
abbrev nPlaces : List Str := ["panel", "entry", "row"]
theorem scPlaces : FnScope nPlaces ["panel", "entry"] (defScope sPlaces) := ⟨rfl, rfl, rfl, by decide +kernel, rfl, by decide +kernel, by decide +kernel⟩
theorem ok_places {f : Addr} {fd : FuncData} (F : FnP K "places" sPlaces f fd) (N : PanP P w K mg base C) (DP : Df P w K mg base 1 "check_panel" sChkP ["panel"] (spChkP C)) (DN : Df P w K mg base 1 "check_entry" sChkN ["entries", "entry"] (spChkN K)) :
    FnOk P w K mg base CX0 2 f fd ["panel", "entry"] (spPlaces C) := by
  refine okN F scPlaces (fun vs H Q E h => ?_) (fun cdv A outer s H vs Q E hr h => ?_)
  · obtain ⟨_, _, _, _, rfl, _⟩ := h
    rfl
  · obtain ⟨a, xs, rs, z, rfl, ⟨pan, fre, le⟩, hzr, hz, k⟩ := h
    obtain ⟨dx, gs, fr1, fr2, fr3, fr4⟩ := fre
    refine ⟨_, pss_cons (ps_expr (pe_df DP hr (by rfl) (pa_cons (pv 0) pa_nil)))
      (pss_cons (ps_expr (pe_df DN hr (by rfl) (pa_cons (pe_mt (pv 0) N.cls N.en hr) (pa_cons (pv 1) pa_nil))))
      (pss_one (ps_ret (pe_lc (own := [("row", 2)]) (g := gName 2) (tt := tYes) (te := tBM K "list" (rIndex K) (tVar 2) (tCons (tVar 1) tNil)) rfl scPlaces.nd (pi_list (pe_mt (pv 0) N.cls N.rw hr))
        (blkOk_by (N := nPlaces) (sc := defScope sPlaces) (by decide +kernel)) (fun _ _ _ _ _ => pg_name (i := 2) scPlaces.nd rfl (Or.inl rfl)) (fun _ _ _ _ _ => pts_nil)
        (fun _ _ _ _ _ => pe_bm PySem.F.plainAttrs_list PySem.F.slot_list_index PySem.F.type_list_index mt_index (pv 2) (pa_cons (pv 1) pa_nil)))))), ?_⟩
    refine ⟨_, rfl, a, dx, gs, rfl, fr1, ?_⟩
    refine ⟨_, rfl, a, dx, gs, rfl, fr1, fr2, a, xs, rs, rfl, pan, fun D2 H3 s3 nD2 hD2 => ⟨_, rfl, D2, xs, z, rfl, SqL.of hD2, hz, ?_⟩⟩
    refine ⟨_, rfl, a, dx, gs, rfl, s3 _ _ fr1, fr3, a, xs, rs, rfl, pan.same s3, le, fun D3 as H4 s4 nD3 hD3 has _ _ => ?_⟩
    have s14 := s3.trans s4
    refine ⟨D3, rfl, ⟨_, SqL.of hD3⟩, fun D4 hD4 => lc_list (K := K) (a := D3) (xs := as.map V.ref) (fun i H' => H' D4 = some (.lst (natsV ((rs.take i).map fun r => r.idxOf z))) ∧ Same H4 H') ⟨upd_same, sn hD4⟩ (fun i H' _ h => SqL.of (h.2 _ _ hD3)) ?_ ?_⟩
    · rintro i y H' hi ⟨q1, q2⟩
      rw [List.getElem?_map] at hi
      obtain ⟨c, hc, rfl⟩ := Option.map_eq_some_iff.mp hi
      obtain ⟨r, hr1, hr2⟩ := has.at hc
      obtain ⟨x1, x2, x3⟩ := idx_ok (hzr r (List.mem_of_getElem? hr1))
      refine ⟨rfl, _, rfl, .inl ⟨rfl, _, SqL.of (q2 _ _ hr2)⟩, _, rfl, c, r.map V.str, .str z, r.idxOf z, .str z, rfl, rfl, SqL.of (q2 _ _ hr2), rfl, flat_strs, x1, x2, x3, _, q1, ?_, ?_, fun b o e => ?_⟩
      · refine small1000 ?_
        unfold natsV
        rw [List.length_map, List.length_map]
        have := List.length_take_le' i rs
        omega
      · rw [upd_same, List.take_succ, hr1, List.map_append]
        unfold natsV
        rw [List.map_append]
        rfl
      · rw [upd_ne (ne_of_none e hD4)]
        exact q2 _ _ e
    · rintro H' ⟨q1, q2⟩
      rw [List.length_map, has.len, List.take_length] at q1
      exact k D4 H' (s14.trans q2) (s14.free hD4) q1
end
end K24

set_option maxHeartbeats 8000000
namespace K24
open PySem PySem.Spec PyProof.Rows L2 G1
theorem pw_rising : ∀ (p : Str) (l : List Str), (p :: l).Pairwise leS → risingS p l = true
  | p, [], _ => rfl
  | p, x :: r, h => by
    obtain ⟨h1, h2⟩ := List.pairwise_cons.mp h
    have l1 : leS p x := h1 x List.mem_cons_self
    show (!ltCps x.cps.toList p.cps.toList && risingS x r) = true
    rw [pw_rising x r h2, ltCps_eq, decide_eq_false l1]
    rfl
theorem pw_sorted {l : List Str} (h : l.Pairwise leS) : sortedS l = true := match l, h with
  | [], _ => rfl
  | x :: r, h => pw_rising x r h
theorem sorted_filter {l : List Str} {p : Str → Bool} (h : sortedS l = true) : sortedS (l.filter p) = true := pw_sorted ((sorted_pw h).sublist List.filter_sublist)
/-- without the entries of a lot -/
def less (zs r : List Str) : List Str := r.filter fun z => decide (z ∉ zs)
/-- [name for name in l if name not in lot], the step -/
theorem less_take {zs r : List Str} {i : Nat} {z : Str} (h : r[i]? = some z) : less zs (r.take (i + 1)) = less zs (r.take i) ++ (if z ∈ zs then [] else [z]) := by
  unfold less
  rw [List.take_succ, h, List.filter_append]
  congr 1
  show List.filter _ [z] = _
  rw [List.filter_cons]
  by_cases e : z ∈ zs
  · rw [if_pos e, decide_eq_false (fun q => q e), if_neg Bool.false_ne_true]
    rfl
  · rw [if_neg e, decide_eq_true e, if_pos rfl]
    rfl
end K24

set_option maxHeartbeats 4000000
/-! Several except clauses, each with the exception's name. -/
namespace G1
open PySem PySem.Spec PyProof.Rows L2
abbrev TsE : Type := Addr → Value → Option Addr → TS
/-- the clauses' wish, one behind the other -/
def wAll (K : PySem.W.Frag) (i : Nat) (Wout : WX) (D : Ends) : List (Value × TsE) → WX
  | [] => Wout
  | (c, ts) :: r => wAs K c i ts (wAll K i Wout D r) D
inductive HdsAs (X : Cx) (n : Str) : List ExceptHandler → List (Value × TsE) → Prop
  | nil : HdsAs X n [] []
  | cons {x : Str} {c : Value} {ts : TsE} {b0 : Stmt} {su : List Stmt} {q1 q2 : Pos} {hds : List ExceptHandler} {l : List (Value × TsE)} : Names X x c →
      (∀ (a : Addr) (oe : Obj) (cls : Value) (d : Option Addr) (pn : List (Addr × Obj)), Zc cls d oe → (∃ vs, oe.data = .fields vs) → PSs (X.suite a ((a, oe) :: pn)) (b0 :: su) (ts a cls d)) → HdsAs X n hds l →
      HdsAs X n (.ExceptHandler (some (.Name x q1)) (some n) (b0 :: su) q2 :: hds) ((c, ts) :: l)
section
variable {X : Cx} {body : List Stmt} {h0 : ExceptHandler} {hds : List ExceptHandler} {l : List (Value × TsE)} {pos : Pos} {tb : WX → TS} {Wout : WX} {n : Str} {i : Nat}
theorem ps_try_all (hs : X.stack = X.env :: X.outer) (hf : X.env.frame = some X.env.locals) (hN : X.N.Nodup) (hi : X.N[i]? = some n) (hln : X.env.kindOf n = some .local) (tk : Takes X Wout)
    (hb : ∀ (W : WX) (pn : List (Addr × Obj)) (xe : Value → Shared → Prop), Takes (X.tr pn xe) W → PassesOwn (model X.prog X.w) X.A X.env xe → PSs (X.tr pn xe) body (tb W)) (hh : HdsAs X n (h0 :: hds) l) :
    PS X (.Try body (h0 :: hds) [] [] pos) (fun D σ H => tb (wAll X.K i Wout D l) D σ H) := by
  refine ⟨fun pins s σ H D I h => wpAny_Try_except ?_⟩
  have ok := I.ok
  have frm : X.A.frames = some (X.env :: X.outer) := ok.frames.trans (by rw [hs])
  have loc : Loc X.env.scope n := .inl hln
  let xe0 : Value → Shared → Prop := fun e s1 => wpAny (model X.prog X.w) X.A (noteFrame e X.env) (fun _ s2 => wpAny (model X.prog X.w) X.A (setFlight e none) (fun _ s3 => wpAny (model X.prog X.w) X.A (handleBy e X.env (h0 :: hds)) (SP X pins D) X.xe s3) X.xe s2) X.xe s1
  have take0 : Takes (X.tr (X.pn ++ pins) xe0) (wAll X.K i Wout D l) := fun u s' xx => by
    obtain ⟨a, B, sI, pins', σ1, H1, cls, d, rfl, Jx, nb, up, sky, na, os, ag, w⟩ := xx
    have J : Inv X pins σ1 H1 sI := Jx.ofTry ok
    refine Sky.land Zc.steady frm hf (by rw [← hs]; exact sky : Sky B (X.env :: X.outer) a (Zc cls d) X.env.locals s'.heap) fun h3 fl up3 => ?_
    have J3 : Inv X pins σ1 H1 { s' with heap := h3 } := J.landed nb fl.1 (up.trans up3) os ag
    obtain ⟨o3, vs3, g3, z3, d3⟩ := fl.there
    have off : a ∉ frs (X.env :: X.outer) := fun hm => by
      obtain ⟨_, o', e', no⟩ := fl.2.2.1.mem hm
      rw [g3] at e'
      cases e'
      exact no _ d3
    have nL : a ≠ X.env.locals := fun q => off (List.mem_filterMap.mpr ⟨X.env, List.mem_cons_self, hf.trans (by rw [q])⟩)
    have nF : a ∉ X.fs := fun hm => by
      obtain ⟨ev, hev, q⟩ := List.mem_filterMap.mp hm
      exact off (List.mem_filterMap.mpr ⟨ev, List.mem_cons_of_mem _ hev, q⟩)
    have S3 := J3.suite g3 d3 na nL nF
    have LT : PySem.W.Looks (model X.prog X.w) h3 (typeOf (.ref a)) cls := fun A Q E t kp q => wpAny_typeOf_ref (kp _ _ g3) (z3.1 ▸ q)
    suffices go : ∀ {hds' : List ExceptHandler} {l' : List (Value × TsE)}, HdsAs X n hds' l' → wAll X.K i Wout D l' cls d σ1 H1 → wpAny (model X.prog X.w) X.A (handleBy (.ref a) X.env hds') (SP X pins D) X.xe { s' with heap := h3 } from go hh w
    intro hds' l' hk
    induction hk with
    | nil =>
      intro w
      obtain ⟨_, _, _, oe, vs, T, oT, _, he, hz, hd, h1, hr⟩ := id fl
      refine wpAny_handleBy_nil (by
        unfold PySem.passOn
        refine wpAny_bind (wpAny_field he hd h1 ?_)
        rw [if_neg (show ¬ ((Value.ref T == Value.none) = true) by simp)]
        have up0 : wpAny (model X.prog X.w) X.A (setFlight (.ref a) X.env.frame) (fun _ s4 => wpAny (model X.prog X.w) X.A (throw (.ref a) : Sem Flow) (SP X pins D) X.xe s4) X.xe { s' with heap := h3 } := by
          rw [hf]
          exact HandSPX.setFlight_upZ fl fun h4 hh4 up4 => wpAny_throw (tk _ _ ⟨a, B, sI, pins, σ1, H1, cls, d, rfl, J, nb, (up.trans up3).trans up4, .inr (.inr (by rw [hs]; exact hh4)), na, os, ag, w⟩)
        first
          | exact wpAny_bind (wpAny_pure (wpAny_bind up0))
          | exact wpAny_bind up0)
    | @cons x c ts b0 su q1 q2 hds2 l2 hc hsu r ih =>
      intro w
      obtain ⟨b, hb1, yes, no⟩ := w
      refine wpAny_handleBy_cons (codeAny_handlers_test ?_) (by intro q; cases q)
      have test : ∀ {Q : Value → Shared → Prop} {E : Value → Shared → Prop}, Q c { s' with heap := h3 } → wpAny (model X.prog X.w) (X.A.mark (some (.ref a))) (eval (.Name x q1) X.env) Q E { s' with heap := h3 } := fun q => by
        obtain ⟨hg, hdbg, hm | ⟨hm, hv, hnn⟩⟩ := hc
        · exact ld_glob (X := X.suite a ((a, o3) :: (X.pn ++ pins))) S3 hg hm q hdbg
        · exact ld_blt (X := X.suite a ((a, o3) :: (X.pn ++ pins))) S3 hg hm hv q hnn hdbg
      refine test ((PySem.W.exm_one (M := model X.prog X.w) J3.kIn LT hb1).here ?_)
      cases b with
      | false =>
        show wpAny _ X.A (handleBy (.ref a) X.env hds2) _ _ _
        exact ih (no rfl)
      | true =>
        refine codeAny_handlers_suite_as (HandSPX.lands_againZ fl fun h4 fl4 up4 => ?_)
        obtain ⟨o4, vs4, g4, z4, d4⟩ := fl4.there
        have S4 := (J.landed nb fl4.1 ((up.trans up3).trans up4) os ag : Inv X pins σ1 H1 { s' with heap := h4 }).suite g4 d4 na nL nF
        refine store_ok (X := X.suite a ((a, o4) :: (X.pn ++ pins))) (v := .ref a) S4 hN hi loc rfl (fun s5 S5 => ?_) (.inr hln)
        refine wpAny_mono ((hsu a o4 cls d (X.pn ++ pins) z4 ⟨_, d4⟩).run [] s5 _ H1 _ S5 (yes rfl a na)) (fun fl s6 res => ?_) (fun _ _ z => False.elim z)
        have close : ∀ {σ6 : L2.St} {H6 : Hp} {Q : Shared → Prop}, Inv (X.suite a ((a, o4) :: (X.pn ++ pins))) [] σ6 H6 s6 → (∀ s7, Inv X pins (σ6.set i none) H6 s7 → Q s7) →
            wpAny (model X.prog X.w) X.A (do bindName X.env n .none; unbindBehindTheSuite X.env n q2) (fun _ s7 => Q s7) X.xe s6 := fun S6 hq => gone_ok (S6.unsuite ok) hN hi hln hq
        match fl, res with
        | .next, ⟨_, _, S6, q6⟩ => exact close S6 fun s7 J7 => ⟨_, _, J7, q6⟩
        | .brk, ⟨_, _, S6, q6⟩ => exact close S6 fun s7 J7 => ⟨_, _, J7, q6⟩
        | .cont, ⟨_, _, S6, q6⟩ => exact close S6 fun s7 J7 => ⟨_, _, J7, q6⟩
        | .ret u, ⟨_, _, _, S6, r6, q6⟩ => exact close S6 fun s7 J7 => ⟨_, _, _, J7, r6, q6⟩
  refine wpAny_mono ((hb _ (X.pn ++ pins) xe0 take0 PassesOwn.looking).run [] s σ H D (I.toTry _) h) (fun fl s1 res => ?_) (fun _ _ z => z)
  match fl, res with
  | .next, ⟨σ1, H1, J, q⟩ => exact wpAny_execs_nil ⟨σ1, H1, J.ofTry ok, q⟩
  | .brk, ⟨σ1, H1, J, q⟩ => exact ⟨σ1, H1, J.ofTry ok, q⟩
  | .cont, ⟨σ1, H1, J, q⟩ => exact ⟨σ1, H1, J.ofTry ok, q⟩
  | .ret u, ⟨v, σ1, H1, J, r, q⟩ => exact ⟨v, σ1, H1, J.ofTry ok, r, q⟩
end
end G1

set_option maxHeartbeats 8000000
namespace K24
open PySem PySem.Spec PyProof.Rows L2 G1
/-! ### equal rows -/
def atR (rs : List (List Str)) (i : Nat) : List Str := rs.getD i []
def firstsTo (rs : List (List Str)) (n : Nat) : List Nat := (List.range n).filter fun i => decide (rs.idxOf (atR rs i) = i)
def grpTo (rs : List (List Str)) (n : Nat) (r : List Str) : List Nat := (List.range n).filter fun j => decide (atR rs j = r)
def eqRows (rs : List (List Str)) : List (List Nat) := (firstsTo rs rs.length).map fun i => grpTo rs rs.length (atR rs i)
def plainRows (rs : List (List Str)) : List (List Str) := (firstsTo rs rs.length).map (atR rs)
theorem atR_of {rs : List (List Str)} {i : Nat} {r : List Str} (h : rs[i]? = some r) : atR rs i = r := by
  unfold atR
  rw [List.getD_eq_getElem?_getD, h]
  rfl
theorem range_filter {p : Nat → Bool} {n : Nat} : (List.range (n + 1)).filter p = (List.range n).filter p ++ (if p n = true then [n] else []) := by
  rw [List.range_succ, List.filter_append]
  congr 1
  rw [List.filter_cons]
  cases p n <;> rfl
/-- lists of positions at these places -/
inductive NatsAt (H : Hp) : List Addr → List (List Nat) → Prop
  | nil : NatsAt H [] []
  | cons {a : Addr} {r : List Nat} {as : List Addr} {rs : List (List Nat)} : H a = some (.lst (natsV r)) → NatsAt H as rs → NatsAt H (a :: as) (r :: rs)
theorem NatsAt.keep {H H' : Hp} {as : List Addr} {rs : List (List Nat)} (h : NatsAt H as rs) (k : ∀ a ∈ as, ∀ o, H a = some o → H' a = some o) : NatsAt H' as rs := by
  induction h with
  | nil => exact .nil
  | cons e _ ih => exact .cons (k _ List.mem_cons_self _ e) (ih fun a ha => k a (List.mem_cons_of_mem _ ha))
theorem NatsAt.same {H H' : Hp} {as : List Addr} {rs : List (List Nat)} (h : NatsAt H as rs) (s : Same H H') : NatsAt H' as rs := h.keep fun a _ o e => s a o e
theorem NatsAt.snoc {H : Hp} {a : Addr} {r : List Nat} {as : List Addr} {rs : List (List Nat)} (h : NatsAt H as rs) (e : H a = some (.lst (natsV r))) : NatsAt H (as ++ [a]) (rs ++ [r]) := by
  induction h with
  | nil => exact .cons e .nil
  | cons e2 _ ih => exact .cons e2 ih
theorem NatsAt.len {H : Hp} {as : List Addr} {rs : List (List Nat)} (h : NatsAt H as rs) : as.length = rs.length := by
  induction h with
  | nil => rfl
  | cons _ _ ih => rw [List.length_cons, List.length_cons, ih]
/-! ### deep equality of rows -/
theorem eqv_strs : ∀ {xs ys : List Str}, PyData.eqvAll (xs.map PyData.str) (ys.map PyData.str) = decide (xs = ys)
  | [], [] => by simp [PyData.eqvAll]
  | [], y :: ys => by simp [PyData.eqvAll]
  | x :: xs, [] => by simp [PyData.eqvAll]
  | x :: xs, y :: ys => by
    have ih := @eqv_strs xs ys
    show (PyData.eqv (.str x) (.str y) && PyData.eqvAll (xs.map PyData.str) (ys.map PyData.str)) = _
    rw [ih]
    show ((x == y) && decide (xs = ys)) = _
    by_cases e : x = y
    · subst e
      simp
    · rw [beq_eq_false_iff_ne.mpr e, Bool.false_and, decide_eq_false (fun q => e (by injection q))]
theorem eqv_rd {a b : List Str} : PyData.eqv (rd a) (rd b) = decide (a = b) := by
  show PyData.eqvAll (a.map PyData.str) (b.map PyData.str) = _
  exact eqv_strs
/-- rows.index(row), rows with small names -/
theorem idx_rows {rs : List (List Str)} {i : Nat} {r : List Str} (h : rs[i]? = some r) : (rs.map rd)[rs.idxOf r]? = some (rd r) ∧ PyData.eqv (rd r) (rd r) = true ∧ ∀ (m : Nat) (z : PyData), m < rs.idxOf r → (rs.map rd)[m]? = some z → PyData.eqv z (rd r) = false := by
  have hm : r ∈ rs := List.mem_of_getElem? h
  have lt := List.idxOf_lt_length_of_mem hm
  refine ⟨?_, by rw [eqv_rd, decide_eq_true rfl], fun m y lm e => ?_⟩
  · rw [List.getElem?_map, List.getElem?_eq_getElem lt, List.getElem_idxOf lt]
    rfl
  · rw [List.getElem?_map] at e
    obtain ⟨x, hx, rfl⟩ := Option.map_eq_some_iff.mp e
    rw [eqv_rd]
    have lm2 : m < rs.length := by omega
    rw [List.getElem?_eq_getElem lm2] at hx
    have hx2 : rs[m] = x := Option.some.inj hx
    have := List.not_of_lt_findIdx (p := (· == r)) (xs := rs) lm
    rw [← hx2]
    refine decide_eq_false fun q => ?_
    rw [q] at this
    simp at this
/-- what is known of entries and rows -/
structure Good (xs : List Str) (rs : List (List Str)) : Prop where
  nm : ∀ z ∈ xs, Nm z
  nd : xs.Nodup
  l1 : 1 ≤ xs.length
  l6 : xs.length ≤ 7
  so : sortedS xs = true
  pr : ∀ r ∈ rs, r.Perm xs
  r1 : 1 ≤ rs.length
  r8 : rs.length ≤ 10
theorem Good.fine {xs : List Str} {rs : List (List Str)} (g : Good xs rs) : FineN (rsd rs) 2 (64 * rs.length) := (fine_rows fun r hr => ⟨fun z hz => g.nm z ((g.pr r hr).mem_iff.mp hz), by rw [(g.pr r hr).length_eq]; exact g.l6⟩).list
theorem Good.row {xs : List Str} {rs : List (List Str)} (g : Good xs rs) {r : List Str} (hr : r ∈ rs) : FineN (rd r) 1 63 := fine_row (fun z hz => g.nm z ((g.pr r hr).mem_iff.mp hz)) (by rw [(g.pr r hr).length_eq]; exact g.l6)
def spTurned (C : Addr) : Sp := fun vs H Q _ => ∃ (a : Addr) (xs : List Str) (rs : List (List Str)), vs = [.ref a] ∧ PanF H C a xs rs ∧ Good xs rs ∧
  ∀ (PN : Addr) (H' : Hp), Same H H' → H PN = none → PanF H' C PN xs (rs.map List.reverse) → Q (.ref PN) H'
def spPlainP (C : Addr) : Sp := fun vs H Q _ => ∃ (a : Addr) (xs : List Str) (rs : List (List Str)), vs = [.ref a] ∧ PanF H C a xs rs ∧ Good xs rs ∧
  ∀ (PN : Addr) (H' : Hp), Same H H' → H PN = none → PanF H' C PN xs (plainRows rs) → Q (.ref PN) H'
def spEqRows (C : Addr) : Sp := fun vs H Q _ => ∃ (a : Addr) (xs : List Str) (rs : List (List Str)), vs = [.ref a] ∧ PanF H C a xs rs ∧ Good xs rs ∧
  ∀ (D : Addr) (gs : List Addr) (H' : Hp), Same H H' → H D = none → H' D = some (.lst (gs.map V.ref)) → NatsAt H' gs (eqRows rs) → (∀ g ∈ gs, H g = none ∧ g ≠ D) → Q (.ref D) H'
theorem firstsTo_lt {rs : List (List Str)} {n i : Nat} (h : i ∈ firstsTo rs n) : i < n := List.mem_range.mp (List.mem_filter.mp h).1
theorem plainRows_sub {rs : List (List Str)} {r : List Str} (h : r ∈ plainRows rs) : r ∈ rs := by
  obtain ⟨i, hi, rfl⟩ := List.mem_map.mp h
  have lt := firstsTo_lt hi
  have e : rs[i]? = some rs[i] := List.getElem?_eq_getElem lt
  rw [atR_of e]
  exact List.mem_of_getElem? e
theorem plainRows_len {rs : List (List Str)} : (plainRows rs).length ≤ rs.length := by
  unfold plainRows firstsTo
  rw [List.length_map]
  exact Nat.le_trans (List.length_filter_le _ _) (by rw [List.length_range]; exact Nat.le_refl _)
theorem plainRows_pos {rs : List (List Str)} (h : 1 ≤ rs.length) : 1 ≤ (plainRows rs).length := by
  have e : rs[0]? = some (rs[0]'(by omega)) := List.getElem?_eq_getElem _
  have m : 0 ∈ firstsTo rs rs.length := by
    refine List.mem_filter.mpr ⟨List.mem_range.mpr (by omega), decide_eq_true ?_⟩
    rw [atR_of e]
    cases rs with
    | nil => simp at h
    | cons r t => simp
  exact List.length_pos_of_mem (List.mem_map.mpr ⟨0, m, rfl⟩)
theorem Good.rev {xs : List Str} {rs : List (List Str)} (g : Good xs rs) : Good xs (rs.map List.reverse) := ⟨g.nm, g.nd, g.l1, g.l6, g.so, fun y hy => by
  obtain ⟨r, hr, rfl⟩ := List.mem_map.mp hy
  exact r.reverse_perm.trans (g.pr r hr), by rw [List.length_map]; exact g.r1, by rw [List.length_map]; exact g.r8⟩
theorem Good.plain {xs : List Str} {rs : List (List Str)} (g : Good xs rs) : Good xs (plainRows rs) := ⟨g.nm, g.nd, g.l1, g.l6, g.so, fun y hy => g.pr y (plainRows_sub hy), plainRows_pos g.r1, Nat.le_trans plainRows_len g.r8⟩
section
variable {P : Program} {w : World} {K : PySem.W.Frag} {mg : Str → Option Value} {base : Heap} {C : Addr}
end
end K24

set_option maxHeartbeats 8000000
namespace K24
open PySem PySem.Spec PyProof.Rows L2 G1
/-- at each address stands what is asked of it -/
inductive ObAt {α : Type} (H : Hp) (Pv : α → HO → Prop) : List Addr → List α → Prop
  | nil : ObAt H Pv [] []
  | cons {a : Addr} {x : α} {o : HO} {as : List Addr} {xs : List α} : H a = some o → Pv x o → ObAt H Pv as xs → ObAt H Pv (a :: as) (x :: xs)
section
variable {α : Type} {H H' : Hp} {Pv : α → HO → Prop}
theorem ObAt.keep {as : List Addr} {xs : List α} (h : ObAt H Pv as xs) (k : ∀ a ∈ as, ∀ o, H a = some o → H' a = some o) : ObAt H' Pv as xs := by
  induction h with
  | nil => exact .nil
  | cons e p _ ih => exact .cons (k _ List.mem_cons_self _ e) p (ih fun a ha => k a (List.mem_cons_of_mem _ ha))
theorem ObAt.same {as : List Addr} {xs : List α} (h : ObAt H Pv as xs) (s : Same H H') : ObAt H' Pv as xs := h.keep fun a _ o e => s a o e
theorem ObAt.len {as : List Addr} {xs : List α} (h : ObAt H Pv as xs) : as.length = xs.length := by
  induction h with
  | nil => rfl
  | cons _ _ _ ih => rw [List.length_cons, List.length_cons, ih]
theorem ObAt.snoc {as : List Addr} {xs : List α} {a : Addr} {x : α} {o : HO} (h : ObAt H Pv as xs) (e : H a = some o) (p : Pv x o) : ObAt H Pv (as ++ [a]) (xs ++ [x]) := by
  induction h with
  | nil => exact .cons e p .nil
  | cons e2 p2 _ ih => exact .cons e2 p2 ih
theorem ObAt.at {as : List Addr} {xs : List α} (h : ObAt H Pv as xs) : ∀ {i : Nat} {a : Addr}, as[i]? = some a → ∃ x o, xs[i]? = some x ∧ H a = some o ∧ Pv x o := by
  induction h with
  | nil => intro i a e; cases e
  | @cons a0 x0 o0 as xs e0 p0 _ ih =>
    intro i a e
    match i, e with
    | 0, e =>
      cases e
      exact ⟨x0, o0, rfl, e0, p0⟩
    | i + 1, e => exact ih e
end
/-- a row's masks -/
def PAh (xs : List Str) (r : List Str) (o : HO) : Prop := o = .dK (dN r (aheadV xs r))
/-- what is told of the rows a mask is asked of -/
structure Rw (xs : List Str) (rs : List (List Str)) : Prop where
  nd : xs.Nodup
  le : xs.length ≤ 40
  pr : ∀ r ∈ rs, r.Perm xs
  l60 : rs.length ≤ 60
  so : sortedS xs = true
  r1 : 1 ≤ rs.length
theorem Good.rw {xs : List Str} {rs : List (List Str)} (g : Good xs rs) : Rw xs rs := ⟨g.nd, by have := g.l6; omega, g.pr, by have := g.r8; omega, g.so, g.r1⟩
def spAMs (C : Addr) : Sp := fun vs H Q _ => ∃ (a : Addr) (xs : List Str) (rs : List (List Str)), vs = [.ref a] ∧ PanF H C a xs rs ∧ Rw xs rs ∧
  ∀ (D : Addr) (ds : List Addr) (H' : Hp), Same H H' → H D = none → H' D = some (.lst (ds.map V.ref)) → ObAt H' (PAh xs) ds rs → (∀ d ∈ ds, H d = none ∧ d ≠ D) → Q (.ref D) H'
/-- the least masks of one name -/
def LeastOf (xs : List Str) (rs : List (List Str)) (x : Str) (zs : List Nat) : Prop := ∃ ys : List Nat, ys.Pairwise (· ≤ ·) ∧ ys.Nodup ∧ (∀ m, m ∈ ys ↔ m ∈ rs.map fun r => aheadM xs r x) ∧ ys.length ≤ rs.length ∧ zs = leastM ys
/-- a family: for each name the list of its least masks -/
def FamAt (H : Hp) (D : Addr) (xs : List Str) (rs : List (List Str)) : Prop := ∃ g : Str → Addr, H D = some (.dK (dN xs fun x => .ref (g x))) ∧ ∀ x ∈ xs, ∃ zs, LeastOf xs rs x zs ∧ H (g x) = some (.lst (mskV zs))
theorem FamAt.same {H H' : Hp} {D : Addr} {xs : List Str} {rs : List (List Str)} (h : FamAt H D xs rs) (s : Same H H') : FamAt H' D xs rs := by
  obtain ⟨g, h1, h2⟩ := h
  refine ⟨g, s _ _ h1, fun x hx => ?_⟩
  obtain ⟨zs, z1, z2⟩ := h2 x hx
  exact ⟨zs, z1, s _ _ z2⟩
theorem least_uniq {xs : List Str} {rs : List (List Str)} {x : Str} {zs ws : List Nat} (h1 : LeastOf xs rs x zs) (h2 : LeastOf xs rs x ws) : zs = ws := by
  obtain ⟨ys, a1, a2, a3, _, rfl⟩ := h1
  obtain ⟨us, b1, b2, b3, _, rfl⟩ := h2
  have p : ys.Perm us := (List.perm_ext_iff_of_nodup a2 b2).mpr fun m => by rw [a3, b3]
  have e : ys = us := p.eq_of_pairwise (fun a b _ _ h1 h2 => Nat.le_antisymm h1 h2) a1 b1
  rw [e]
def spLA (C : Addr) : Sp := fun vs H Q _ => ∃ (a : Addr) (xs : List Str) (rs : List (List Str)), vs = [.ref a] ∧ PanF H C a xs rs ∧ Rw xs rs ∧ ∀ (D : Addr) (H' : Hp), Same H H' → H D = none → FamAt H' D xs rs → Q (.ref D) H'
section
variable {P : Program} {w : World} {K : PySem.W.Frag} {mg : Str → Option Value} {base : Heap} {C : Addr}
end
end K24

set_option maxHeartbeats 8000000
namespace K24
open PySem PySem.Spec PyProof.Rows L2 G1
/-- the names of a mask -/
def lotM (xs : List Str) (m : Nat) : List Str := xs.filter fun y => m.testBit (xs.idxOf y)
theorem lotM_msk {xs : List Str} {p : Str → Bool} : lotM xs (msk p xs) = xs.filter p := by
  unfold lotM
  refine List.filter_congr fun y hy => ?_
  rw [msk_test, List.getElem?_eq_getElem (List.idxOf_lt_length_of_mem hy), List.getElem_idxOf]
  rfl
theorem bit_ne {i m : Nat} : (Builtin.bitAnd ((2 ^ i : Nat) : Int) (m : Int) != 0) = m.testBit i := by
  rw [band_nat]
  cases e : m.testBit i with
  | false =>
    have z : 2 ^ i &&& m = 0 := Nat.eq_of_testBit_eq fun j => by
      rw [Nat.testBit_and, Nat.testBit_two_pow, Nat.zero_testBit]
      by_cases h : i = j
      · subst h
        rw [e, Bool.and_false]
      · rw [decide_eq_false h, Bool.false_and]
    rw [z]
    rfl
  | true =>
    refine bne_iff_ne.mpr fun h => ?_
    have z : 2 ^ i &&& m = 0 := by omega
    have q := congrArg (fun n => Nat.testBit n i) z
    simp only [Nat.testBit_and, Nat.testBit_two_pow, Nat.zero_testBit, e, decide_true, Bool.and_self] at q
    cases q
def spLotOf : Sp := fun vs H Q _ => ∃ (b : Addr) (m : Nat) (xs : List Str), vs = [.ref b, .int (m : Int)] ∧ H b = some (.dK (dN xs (bitV xs))) ∧ xs.length ≤ 40 ∧
  ∀ (D : Addr) (H' : Hp), Same H H' → H D = none → H' D = some (.lst ((lotM xs m).map V.str)) → Q (.ref D) H'
abbrev ttBit (K : PySem.W.Frag) : TT := fun σ H Q => tOp (rI0 fun i j => .int (Builtin.bitAnd i j)) (tVar 3) (tVar 1) σ H fun x H' => ∃ k, TruV K x H' k ∧ Q k H'
section
variable {P : Program} {w : World} {K : PySem.W.Frag} {mg : Str → Option Value} {base : Heap} {C : Addr}
end
end K24

set_option maxHeartbeats 8000000
namespace K24
open PySem PySem.Spec PyProof.Rows L2 G1
def partB (ys zs : List Str) : Bool := ys.all fun y => decide (y ∈ zs)
theorem less_part {ys zs : List Str} : decide (less zs ys = []) = partB ys zs := by
  refine Bool.eq_iff_iff.mpr ⟨fun h => ?_, fun h => ?_⟩
  · refine List.all_eq_true.mpr fun y hy => ?_
    have e := of_decide_eq_true h
    refine decide_eq_true ?_
    by_cases q : y ∈ zs
    · exact q
    · have : y ∈ less zs ys := List.mem_filter.mpr ⟨hy, decide_eq_true q⟩
      rw [e] at this
      cases this
  · refine decide_eq_true (List.eq_nil_iff_forall_not_mem.mpr fun y hy => ?_)
    obtain ⟨h1, h2⟩ := List.mem_filter.mp hy
    exact of_decide_eq_true h2 (of_decide_eq_true (List.all_eq_true.mp h y h1))
/-- a list of texts beside a new empty one -/
theorem lists_nil {K : PySem.W.Frag} {H : Hp} {a c : Addr} {zs : List Str} (ha : SqL K H a (zs.map V.str)) (hc : SqL K H c []) : Lists2 K H 0 (.ref a) (.ref c) (decide (zs = [])) := by
  refine ⟨a, c, _, _, rfl, rfl, ha, hc, ?_⟩
  cases zs with
  | nil => exact .inr ⟨rfl, fun _ => true, (fun i x y h => by cases h), by decide⟩
  | cons z zs => exact .inl ⟨(fun h => by cases h), by rw [decide_eq_false (fun h => by cases h)]⟩
def spPart (K : PySem.W.Frag) : Sp := fun vs H Q _ => ∃ (a b : Addr) (ys zs : List Str), vs = [.ref a, .ref b] ∧ H a = some (.lst (ys.map V.str)) ∧ H b = some (.lst (zs.map V.str)) ∧ ys.length ≤ 900 ∧ ∀ H', Same H H' → Q (.bl (partB ys zs)) H'
section
variable {P : Program} {w : World} {K : PySem.W.Frag} {mg : Str → Option Value} {base : Heap} {C : Addr}
end
end K24

set_option maxHeartbeats 4000000
/-! sorted(xs), the items anything that reads as data (lists of texts, pairs, ..): the values themselves in their new order. -/
namespace G1
open PySem PySem.Spec PyProof.Rows L2 PySem.W
abbrev VD := V × PyData
/-- what the sorted items are -/
def sortD (bs : List VD) : List VD := bs.mergeSort (dataLe false fun b => b.2)
theorem sortD_perm (bs : List VD) : (sortD bs).Perm bs := List.mergeSort_perm _ _
theorem sortD_len (bs : List VD) : (sortD bs).length = bs.length := (sortD_perm bs).length_eq
def rSortedD (K : PySem.W.Frag) : List V → Hp → VK → Prop := fun vs H Q => ∃ (a : Addr) (bs : List VD), vs = [V.ref a] ∧ SqL K H a (bs.map (·.1)) ∧ (∀ b ∈ bs, Dp K H b.1 b.2) ∧ AllAlike (bs.map (·.2)) ∧ Sortable (bs.map (·.2)) ∧ bs.length ≤ 1000 ∧ (∀ b ∈ bs, b.2.depth ≤ 20) ∧
  ∀ p, H p = none → Q (.ref p) (upd H p (.lst ((sortD bs).map (·.1))))
theorem each_rel : ∀ {bs : List VD} {us : List Value}, Vals (bs.map (·.1)) us → EachIs (fun v (b : VD) => RelV b.1 v) us bs
  | [], _, h => by
    rw [List.map_nil] at h
    cases h
    exact .nil
  | b :: bs, _, h => by
    rw [List.map_cons] at h
    cases h with
    | cons r t => exact .cons r (each_rel t)
theorem each_vals : ∀ {bs : List VD} {us : List Value}, EachIs (fun v (b : VD) => RelV b.1 v) us bs → Vals (bs.map (·.1)) us
  | _, _, .nil => .nil
  | _, _, .cons r t => .cons r (each_vals t)
theorem each_and {α β : Type} {R S : α → β → Prop} : ∀ {as : List α} {bs : List β}, EachIs R as bs → (∀ a b, b ∈ bs → R a b → S a b) → EachIs S as bs
  | _, _, .nil, _ => .nil
  | _, _, .cons r t, h => .cons (h _ _ List.mem_cons_self r) (each_and t fun a b hb => h a b (List.mem_cons_of_mem _ hb))
section
variable {X : Cx}
theorem cr_sortedD (hu : X.A.units + 22 < cLine) : CallR X (.builtin "sorted") (rSortedD X.K) := by
  intro pins s σ H vs us Q I r h
  obtain ⟨a, bs, rfl, hs, hd, al, so, le, dp, q⟩ := h
  obtain ⟨its, rv, hl, _⟩ := I.list hs
  rw [Vals.ref1 r]
  have e := each_rel rv
  have er : EachIs (fun v (b : VD) => ∃ as, Reads s.heap v b.2 as) its bs := each_and e fun v b hb rb => Dp.reads I b.2 b.1 v (hd b hb) rb
  refine sorted_data (enc := fun b : VD => b.2) hl.isList e er al so (by rw [sizeLine_eq]; omega) (fun b hb => by have := dp b hb; omega) fun out ho eo => ?_
  obtain ⟨ep, he'⟩ := PyProof.Rows.sortedAll_at s.heap its out.toArray
  have hlen : ((sortD bs).map (·.1)).length ≤ sizeLine := by rw [List.length_map, sortD_len, sizeLine_eq]; omega
  exact ⟨.ref _, upd H (s.heap.objs.size + 1) (.lst ((sortD bs).map (·.1))), I.laid (t' := s.toks) (fun _ _ => PyProof.Rows.sortedAll_old) (Nat.le_succ _) ⟨hlen, out, ep, each_vals eo, he'⟩, rfl, q _ (I.hok.fresh (Nat.le_succ _))⟩
end
end G1

set_option maxHeartbeats 8000000
namespace K24
open PySem PySem.Spec PyProof.Rows L2 G1
def dedS (acc : List (List Str)) (r : List Str) : List (List Str) := if r ∈ acc then acc else acc ++ [r]
/-- each row once -/
def ded (rs : List (List Str)) : List (List Str) := rs.foldl dedS []
theorem dedS_mem {acc : List (List Str)} {r m : List Str} : m ∈ dedS acc r ↔ m ∈ acc ∨ m = r := by
  unfold dedS
  split
  · rename_i h
    exact ⟨Or.inl, fun q => q.elim id fun e => e ▸ h⟩
  · rw [List.mem_append, List.mem_singleton]
theorem ded_fold : ∀ {rs acc : List (List Str)} {m : List Str}, m ∈ rs.foldl dedS acc ↔ m ∈ acc ∨ m ∈ rs
  | [], acc, m => by simp
  | r :: rs, acc, m => by
    show m ∈ rs.foldl dedS (dedS acc r) ↔ _
    rw [ded_fold, dedS_mem, List.mem_cons, or_assoc]
theorem ded_mem {rs : List (List Str)} {m : List Str} : m ∈ ded rs ↔ m ∈ rs := by
  unfold ded
  rw [ded_fold]
  simp
theorem ded_len : ∀ (rs acc : List (List Str)), (rs.foldl dedS acc).length ≤ acc.length + rs.length
  | [], acc => by simp
  | r :: rs, acc => by
    have h := ded_len rs (dedS acc r)
    have h2 : (dedS acc r).length ≤ acc.length + 1 := by
      unfold dedS
      split
      · omega
      · rw [List.length_append]
        simp
    show (rs.foldl dedS (dedS acc r)).length ≤ _
    rw [List.length_cons]
    omega
theorem ded_le {rs : List (List Str)} : (ded rs).length ≤ rs.length := by
  have := ded_len rs []
  rw [List.length_nil] at this
  unfold ded
  omega
theorem ded_step {rs : List (List Str)} {i : Nat} {r : List Str} (h : rs[i]? = some r) : ded (rs.take (i + 1)) = dedS (ded (rs.take i)) r := by
  unfold ded
  rw [List.take_succ, h, List.foldl_append]
  rfl
/-- those no other of them is a part of -/
def smallB (ps : List (List Str)) (l : List Str) : Bool := decide ((ps.filter fun o => !decide (o = l) && partB o l) = [])
def minR (ps : List (List Str)) : List (List Str) := ps.filter (smallB ps)
theorem sub_len : ∀ {a b : List Str}, a.Nodup → (∀ x ∈ a, x ∈ b) → a.length ≤ b.length
  | [], _, _, _ => Nat.zero_le _
  | x :: a, b, nd, h => by
    rw [List.nodup_cons] at nd
    have hx := h x List.mem_cons_self
    have q := sub_len (a := a) (b := b.erase x) nd.2 fun y hy => by
      have ne : y ≠ x := fun e => nd.1 (e ▸ hy)
      exact (List.mem_erase_of_ne ne).mpr (h y (List.mem_cons_of_mem _ hy))
    rw [List.length_erase_of_mem hx] at q
    have := List.length_pos_of_mem hx
    rw [List.length_cons]
    omega
theorem part_mem {a b : List Str} (h : partB a b = true) : ∀ x ∈ a, x ∈ b := fun x hx => of_decide_eq_true (List.all_eq_true.mp h x hx)
theorem part_lt {a b : List Str} (na : a.Nodup) (nb : b.Nodup) (sa : sortedS a = true) (sb : sortedS b = true) (h : partB a b = true) (ne : a ≠ b) : a.length < b.length := by
  refine Nat.lt_of_not_le fun le => ne ?_
  have m1 := part_mem h
  have m2 : ∀ y ∈ b, y ∈ a := fun y hy => by
    by_cases q : y ∈ a
    · exact q
    · have := sub_len (a := y :: a) (b := b) (List.nodup_cons.mpr ⟨q, na⟩) fun x hx => by
        rcases List.mem_cons.mp hx with e | e
        · exact e ▸ hy
        · exact m1 x e
      rw [List.length_cons] at this
      omega
  exact sorted_uniq sa sb ((List.perm_ext_iff_of_nodup na nb).mpr fun z => ⟨m1 z, m2 z⟩)
theorem part_self {a : List Str} : partB a a = true := List.all_eq_true.mpr fun x hx => decide_eq_true hx
theorem part_trans {a b c : List Str} (h1 : partB a b = true) (h2 : partB b c = true) : partB a c = true := List.all_eq_true.mpr fun x hx => decide_eq_true (part_mem h2 x (part_mem h1 x hx))
theorem minR_ex {ps : List (List Str)} (h : ∀ r ∈ ps, r.Nodup ∧ sortedS r = true) : ∀ (n : Nat) (r : List Str), r ∈ ps → r.length < n → ∃ o ∈ minR ps, partB o r = true
  | 0, _, _, q => absurd q (Nat.not_lt_zero _)
  | n + 1, r, hr, q => by
    cases e : smallB ps r with
    | true => exact ⟨r, List.mem_filter.mpr ⟨hr, e⟩, part_self⟩
    | false =>
      unfold smallB at e
      obtain ⟨o, ho⟩ := List.exists_mem_of_ne_nil _ (of_decide_eq_false e)
      obtain ⟨h1, h2⟩ := List.mem_filter.mp ho
      rw [Bool.and_eq_true] at h2
      have ne : o ≠ r := fun e => by rw [e, decide_eq_true rfl] at h2; exact absurd h2.1 (by decide)
      have lt := part_lt (h o h1).1 (h r hr).1 (h o h1).2 (h r hr).2 h2.2 ne
      obtain ⟨z, z1, z2⟩ := minR_ex h n o h1 (by omega)
      exact ⟨z, z1, part_trans z2 h2.2⟩
theorem rows_of {H : Hp} : ∀ {qs : List (Addr × List Str)}, (∀ q ∈ qs, H q.1 = some (.lst (q.2.map V.str))) → RowsAt H (qs.map (·.1)) (qs.map (·.2))
  | [], _ => .nil
  | q :: qs, h => .cons (h q List.mem_cons_self) (rows_of fun p hp => h p (List.mem_cons_of_mem _ hp))
theorem of_rows {H : Hp} {as : List Addr} {rs : List (List Str)} (h : RowsAt H as rs) : ∀ q ∈ as.zip rs, H q.1 = some (.lst (q.2.map V.str)) := by
  induction h with
  | nil => intro q hq; cases hq
  | cons e _ ih =>
    intro q hq
    rw [List.zip_cons_cons] at hq
    rcases List.mem_cons.mp hq with r | r
    · rw [r]
      exact e
    · exact ih q r
theorem depth_rd {r : List Str} : (rd r).depth ≤ 20 := by
  have : ∀ r : List Str, PyData.depthAll (r.map PyData.str) = 0 := fun r => by
    induction r with
    | nil => simp [PyData.depthAll]
    | cons z r ih => simp [PyData.depthAll, PyData.depth, ih]
  unfold rd
  simp [PyData.depth, this]
theorem alike_rd (r r' : List Str) : PySem.W.alike (rd r) (rd r') = true := by
  have : ∀ r r' : List Str, PySem.W.alikeAll (r.map PyData.str) (r'.map PyData.str) = true := fun r => by
    induction r with
    | nil => intro r'; cases r' <;> simp [PySem.W.alikeAll]
    | cons z r ih =>
      intro r'
      cases r' with
      | nil => simp [PySem.W.alikeAll]
      | cons z' r' => simp [PySem.W.alikeAll, PySem.W.alike, ih r']
  unfold rd
  simp [PySem.W.alike, this]
/-- sorted(rows) -/
theorem sort_rows {K : PySem.W.Frag} {H : Hp} {a : Addr} {as : List Addr} {rs : List (List Str)} {Q : VK} (ha : H a = some (.lst (as.map V.ref))) (hr : RowsAt H as rs) (le : rs.length ≤ 900)
    (k : ∀ (p : Addr) (ls : List Addr) (ts : List (List Str)), H p = none → RowsAt H ls ts → ts.Perm rs → (∀ c ∈ ls, c ∈ as) → Q (.ref p) (upd H p (.lst (ls.map V.ref)))) : rSortedD K [.ref a] H Q := by
  have hz := of_rows hr
  have ln := hr.len
  have e1 : (as.zip rs).map (·.1) = as := List.map_fst_zip (by omega)
  have e2 : (as.zip rs).map (·.2) = rs := List.map_snd_zip (by omega)
  let enc : Addr × List Str → VD := fun p => (V.ref p.1, rd p.2)
  refine ⟨a, (as.zip rs).map enc, rfl, ?_, fun b hb => ?_, ?_, ?_, by rw [List.length_map, List.length_zip]; omega, fun b hb => ?_, fun p np => ?_⟩
  · rw [List.map_map]
    have : (as.zip rs).map ((·.1) ∘ enc) = as.map V.ref := by
      conv => rhs; rw [← e1, List.map_map]
      rfl
    rw [this]
    exact SqL.of ha
  · obtain ⟨q, hq, rfl⟩ := List.mem_map.mp hb
    exact dp_row (hz q hq)
  · intro d hd d' hd'
    rw [List.map_map] at hd hd'
    obtain ⟨q, _, rfl⟩ := List.mem_map.mp hd
    obtain ⟨q', _, rfl⟩ := List.mem_map.mp hd'
    exact alike_rd _ _
  · refine .inr fun d hd => ?_
    rw [List.map_map] at hd
    obtain ⟨q, _, rfl⟩ := List.mem_map.mp hd
    exact ⟨(fun e => nomatch (show rd q.2 = .none from e)), (fun xs e => nomatch (show rd q.2 = .tuple xs from e))⟩
  · obtain ⟨q, _, rfl⟩ := List.mem_map.mp hb
    exact depth_rd
  · have q := List.map_mergeSort (r := fun x y => PySem.W.dataLe false (fun b : VD => b.2) (enc x) (enc y)) (s := PySem.W.dataLe false fun b : VD => b.2) (f := enc) (l := as.zip rs) (fun _ _ _ _ => rfl)
    unfold sortD
    rw [← q, List.map_map]
    generalize hqs : (as.zip rs).mergeSort (fun x y => PySem.W.dataLe false (fun b : VD => b.2) (enc x) (enc y)) = qs
    have pq : qs.Perm (as.zip rs) := hqs ▸ List.mergeSort_perm _ _
    have e3 : qs.map ((·.1) ∘ enc) = (qs.map (·.1)).map V.ref := by
      rw [List.map_map]
      rfl
    rw [e3]
    refine k p _ (qs.map (·.2)) np (rows_of fun q hq => hz q (pq.mem_iff.mp hq)) ?_ fun c hc => ?_
    · have := pq.map (·.2)
      rwa [e2] at this
    · have := (pq.map (·.1)).mem_iff.mp hc
      rwa [e1] at this
end K24

set_option maxHeartbeats 8000000
namespace K24
open PySem PySem.Spec PyProof.Rows L2 G1
/-- lists of texts in their order -/
def leRow (a b : List Str) : Bool := PySem.W.dataLe false (fun d : PyData => d) (rd a) (rd b)
def sortR (rs : List (List Str)) : List (List Str) := rs.mergeSort leRow
theorem sortR_perm {rs : List (List Str)} : (sortR rs).Perm rs := List.mergeSort_perm _ _
/-- sorted(rows): always the same rows in the same order -/
theorem sort_rows2 {K : PySem.W.Frag} {H : Hp} {a : Addr} {as : List Addr} {rs : List (List Str)} {Q : VK} (ha : H a = some (.lst (as.map V.ref))) (hr : RowsAt H as rs) (le : rs.length ≤ 900)
    (k : ∀ (p : Addr) (ls : List Addr), H p = none → RowsAt H ls (sortR rs) → (∀ c ∈ ls, c ∈ as) → Q (.ref p) (upd H p (.lst (ls.map V.ref)))) : rSortedD K [.ref a] H Q := by
  have hz := of_rows hr
  have ln := hr.len
  have e1 : (as.zip rs).map (·.1) = as := List.map_fst_zip (by omega)
  have e2 : (as.zip rs).map (·.2) = rs := List.map_snd_zip (by omega)
  let enc : Addr × List Str → VD := fun p => (V.ref p.1, rd p.2)
  refine ⟨a, (as.zip rs).map enc, rfl, ?_, fun b hb => ?_, ?_, ?_, by rw [List.length_map, List.length_zip]; omega, fun b hb => ?_, fun p np => ?_⟩
  · rw [List.map_map]
    have : (as.zip rs).map ((·.1) ∘ enc) = as.map V.ref := by
      conv => rhs; rw [← e1, List.map_map]
      rfl
    rw [this]
    exact SqL.of ha
  · obtain ⟨q, hq, rfl⟩ := List.mem_map.mp hb
    exact dp_row (hz q hq)
  · intro d hd d' hd'
    rw [List.map_map] at hd hd'
    obtain ⟨q, _, rfl⟩ := List.mem_map.mp hd
    obtain ⟨q', _, rfl⟩ := List.mem_map.mp hd'
    exact alike_rd _ _
  · refine .inr fun d hd => ?_
    rw [List.map_map] at hd
    obtain ⟨q, _, rfl⟩ := List.mem_map.mp hd
    exact ⟨(fun e => nomatch (show rd q.2 = .none from e)), (fun xs e => nomatch (show rd q.2 = .tuple xs from e))⟩
  · obtain ⟨q, _, rfl⟩ := List.mem_map.mp hb
    exact depth_rd
  · have q := List.map_mergeSort (r := fun x y => PySem.W.dataLe false (fun b : VD => b.2) (enc x) (enc y)) (s := PySem.W.dataLe false fun b : VD => b.2) (f := enc) (l := as.zip rs) (fun _ _ _ _ => rfl)
    have q2 := List.map_mergeSort (r := fun x y => PySem.W.dataLe false (fun b : VD => b.2) (enc x) (enc y)) (s := leRow) (f := fun p : Addr × List Str => p.2) (l := as.zip rs) (fun _ _ _ _ => rfl)
    unfold sortD
    rw [← q, List.map_map]
    rw [e2] at q2
    generalize hqs : (as.zip rs).mergeSort (fun x y => PySem.W.dataLe false (fun b : VD => b.2) (enc x) (enc y)) = qs at q2
    have pq : qs.Perm (as.zip rs) := hqs ▸ List.mergeSort_perm _ _
    have e3 : qs.map ((·.1) ∘ enc) = (qs.map (·.1)).map V.ref := by
      rw [List.map_map]
      rfl
    rw [e3]
    have rws := rows_of (H := H) (qs := qs) fun q hq => hz q (pq.mem_iff.mp hq)
    rw [q2] at rws
    refine k p _ np rws fun c hc => ?_
    have := (pq.map (·.1)).mem_iff.mp hc
    rwa [e1] at this
def spSLots (K : PySem.W.Frag) : Sp := fun vs H Q _ => ∃ (b l : Addr) (xs : List Str) (ms : List Nat), vs = [.ref b, .ref l] ∧ H b = some (.dK (dN xs (bitV xs))) ∧ H l = some (.lst (mskV ms)) ∧ xs.length ≤ 40 ∧ ms.length ≤ 60 ∧
  ∀ (D : Addr) (ls : List Addr) (H' : Hp), Same H H' → H D = none → H' D = some (.lst (ls.map V.ref)) → RowsAt H' ls (sortR (ms.map (lotM xs))) → (∀ c ∈ ls, H c = none) → Q (.ref D) H'
def spLOf (C : Addr) : Sp := fun vs H Q _ => ∃ (a : Addr) (z : Str) (xs : List Str) (rs : List (List Str)), vs = [.ref a, .str z] ∧ PanF H C a xs rs ∧ Rw xs rs ∧ z ∈ xs ∧
  ∀ (D : Addr) (zs : List Nat) (H' : Hp), Same H H' → H D = none → LeastOf xs rs z zs → zs.length ≤ rs.length → H' D = some (.lst (mskV zs)) → Q (.ref D) H'
/-- the least lots of an entry, in their order -/
def LotsOf (xs : List Str) (rs : List (List Str)) (z : Str) (lots : List (List Str)) : Prop := ∃ zs, LeastOf xs rs z zs ∧ zs.length ≤ rs.length ∧ lots = sortR (zs.map (lotM xs))
theorem lots_uniq {xs : List Str} {rs : List (List Str)} {z : Str} {l1 l2 : List (List Str)} (h : LotsOf xs rs z l1) (g : LotsOf xs rs z l2) : l1 = l2 := by
  obtain ⟨z1, a1, _, rfl⟩ := h
  obtain ⟨z2, b1, _, rfl⟩ := g
  rw [least_uniq a1 b1]
def spLLots (C : Addr) : Sp := fun vs H Q _ => ∃ (a : Addr) (z : Str) (xs : List Str) (rs : List (List Str)), vs = [.ref a, .str z] ∧ PanF H C a xs rs ∧ Rw xs rs ∧ z ∈ xs ∧
  ∀ (D : Addr) (ls : List Addr) (lots : List (List Str)) (H' : Hp), Same H H' → H D = none → LotsOf xs rs z lots → H' D = some (.lst (ls.map V.ref)) → RowsAt H' ls lots → (∀ c ∈ ls, H c = none) → Q (.ref D) H'
section
variable {P : Program} {w : World} {K : PySem.W.Frag} {mg : Str → Option Value} {base : Heap} {C : Addr}
end
end K24

set_option maxHeartbeats 8000000
namespace K24
open PySem PySem.Spec PyProof.Rows L2 G1
/-- a step of the field: one more of a lot that it does not meet -/
def fbS (ps : List Str) (fd lot : List Str) : List Str := if lot.any (fun y => decide (y ∈ fd)) = true then fd else fd ++ (less ps lot).take 1
def fbL (ps : List Str) (z : Str) (lots : List (List Str)) : List Str := lots.foldl (fbS ps) [z]
theorem fbL_len {ps : List Str} : ∀ {lots : List (List Str)} {fd : List Str}, (lots.foldl (fbS ps) fd).length ≤ fd.length + lots.length
  | [], fd => by simp
  | l :: ls, fd => by
    show (ls.foldl (fbS ps) (fbS ps fd l)).length ≤ _
    have h := fbL_len (ps := ps) (lots := ls) (fd := fbS ps fd l)
    have q : (fbS ps fd l).length ≤ fd.length + 1 := by
      unfold fbS
      split
      · omega
      · rw [List.length_append, List.length_take]
        omega
    rw [List.length_cons]
    omega
def spFB (C : Addr) : Sp := fun vs H Q _ => ∃ (a b : Addr) (i : Nat) (z : Str) (xs : List Str) (rs ts : List (List Str)) (r : List Str), vs = [.ref a, .ref b, .int (i : Int), .str z] ∧ PanF H C a xs rs ∧ PanF H C b xs ts ∧ Rw xs rs ∧ Rw xs ts ∧ rs[i]? = some r ∧ z ∈ xs ∧
  ∀ (D : Addr) (us : List Str) (lots : List (List Str)) (H' : Hp), Same H H' → H D = none → LotsOf xs ts z lots → us.Perm (fbL (r.take (r.idxOf z)) z lots) → sortedS us = true → H' D = some (.lst (us.map V.str)) → Q (.ref D) H'
theorem lot_len {xs : List Str} {rs : List (List Str)} {z : Str} {lots : List (List Str)} (h : LotsOf xs rs z lots) : lots.length ≤ rs.length ∧ ∀ l ∈ lots, l.Sublist xs := by
  obtain ⟨zs, _, lz, rfl⟩ := h
  refine ⟨by rw [sortR_perm.length_eq, List.length_map]; exact lz, fun l hl => ?_⟩
  obtain ⟨m, _, rfl⟩ := List.mem_map.mp (sortR_perm.mem_iff.mp hl)
  exact List.filter_sublist
section
variable {P : Program} {w : World} {K : PySem.W.Frag} {mg : Str → Option Value} {base : Heap} {C : Addr}
end
end K24

set_option maxHeartbeats 8000000
namespace K24
open PySem PySem.Spec PyProof.Rows L2 G1
theorem inB_iff {n m : Nat} : inB n m = true ↔ n &&& m = n := by
  unfold inB
  have le : n &&& m ≤ n := Nat.and_le_left
  rw [beq_iff_eq]
  omega
theorem inB_trans {a b c : Nat} (h1 : inB a b = true) (h2 : inB b c = true) : inB a c = true := by
  rw [inB_iff] at h1 h2 ⊢
  calc a &&& c = (a &&& b) &&& c := by rw [h1]
    _ = a &&& (b &&& c) := Nat.and_assoc _ _ _
    _ = a &&& b := by rw [h2]
    _ = a := h1
theorem holdB_step {m y : Nat} {acc : List Nat} : holdB m (leastS acc y) = (holdB m acc || inB y m) := by
  unfold leastS
  cases e : holdB y acc with
  | true =>
    rw [if_pos rfl]
    cases e2 : inB y m with
    | false => rw [Bool.or_false]
    | true =>
      obtain ⟨n, hn, h1⟩ := List.any_eq_true.mp e
      have : holdB m acc = true := List.any_eq_true.mpr ⟨n, hn, inB_trans h1 e2⟩
      rw [this]
      rfl
  | false =>
    rw [if_neg Bool.false_ne_true]
    unfold holdB
    rw [List.any_append]
    simp
theorem holdB_fold {m : Nat} : ∀ {ys acc : List Nat}, holdB m (ys.foldl leastS acc) = (holdB m acc || ys.any fun n => inB n m)
  | [], acc => by simp
  | y :: ys, acc => by
    show holdB m (ys.foldl leastS (leastS acc y)) = _
    rw [holdB_fold, holdB_step, List.any_cons, Bool.or_assoc]
theorem holdB_least {m : Nat} {ys : List Nat} : holdB m (leastM ys) = ys.any fun n => inB n m := by
  unfold leastM
  rw [holdB_fold]
  rfl
/-- some row of ts has no one ahead of z but who is ahead of z in r -/
def okB (xs : List Str) (ts : List (List Str)) (r : List Str) (z : Str) : Bool := ts.any fun t => inB (aheadM xs t z) (aheadM xs r z)
theorem least_ok {xs : List Str} {ts : List (List Str)} {z : Str} {zs : List Nat} (h : LeastOf xs ts z zs) (r : List Str) : holdB (aheadM xs r z) zs = okB xs ts r z := by
  obtain ⟨ys, _, _, mem, _, rfl⟩ := h
  rw [holdB_least]
  unfold okB
  refine Bool.eq_iff_iff.mpr ⟨fun q => ?_, fun q => ?_⟩
  · obtain ⟨n, hn, h1⟩ := List.any_eq_true.mp q
    obtain ⟨t, ht, rfl⟩ := List.mem_map.mp ((mem n).mp hn)
    exact List.any_eq_true.mpr ⟨t, ht, h1⟩
  · obtain ⟨t, ht, h1⟩ := List.any_eq_true.mp q
    exact List.any_eq_true.mpr ⟨_, (mem _).mpr (List.mem_map.mpr ⟨t, ht, rfl⟩), h1⟩
/-- the same in words of names -/
theorem inB_names {xs t r : List Str} {z : Str} (sub : ∀ y ∈ t, y ∈ xs) : inB (aheadM xs t z) (aheadM xs r z) = (t.take (t.idxOf z)).all fun y => decide (y ∈ r.take (r.idxOf z)) := by
  have h : inB (aheadM xs t z) (aheadM xs r z) = true ↔ ∀ x ∈ xs, decide (x ∈ t.take (t.idxOf z)) = true → decide (x ∈ r.take (r.idxOf z)) = true := by
    unfold inB aheadM
    rw [beq_iff_eq]
    exact msk_sub
  refine Bool.eq_iff_iff.mpr ⟨fun q => ?_, fun q => ?_⟩
  · exact List.all_eq_true.mpr fun y hy => h.mp q y (sub y (List.mem_of_mem_take hy)) (decide_eq_true hy)
  · exact h.mpr fun x _ hx => List.all_eq_true.mp q x (of_decide_eq_true hx)
def spChkPs (C : Addr) : Sp := fun vs H Q _ => ∃ (a b : Addr) (xs : List Str) (rs ts : List (List Str)), vs = [.ref a, .ref b] ∧ PanF H C a xs rs ∧ PanF H C b xs ts ∧ ∀ H', Same H H' → Q .non H'
section
variable {P : Program} {w : World} {K : PySem.W.Frag} {mg : Str → Option Value} {base : Heap} {C : Addr}
end
end K24

set_option maxHeartbeats 8000000
namespace K24
open PySem PySem.Spec PyProof.Rows L2 G1
def spBad (C : Addr) : Sp := fun vs H Q _ => ∃ (a b : Addr) (xs : List Str) (rs ts : List (List Str)), vs = [.ref a, .ref b] ∧ PanF H C a xs rs ∧ PanF H C b xs ts ∧ Rw xs rs ∧ Rw xs ts ∧
  (∀ H', Same H H' → (∀ r ∈ rs, ∀ z ∈ r, okB xs ts r z = true) → Q .non H') ∧
  ∀ (i j : Nat) (r : List Str) (z : Str) (T : Addr) (H' : Hp), Same H H' → rs[i]? = some r → r[j]? = some z → okB xs ts r z = false → (∀ y ∈ r.take j, okB xs ts r y = true) → (∀ q ∈ rs.take i, ∀ y ∈ q, okB xs ts q y = true) → H T = none → H' T = some (.tup [.int (i : Int), .str z]) → Q (.ref T) H'
section
variable {P : Program} {w : World} {K : PySem.W.Frag} {mg : Str → Option Value} {base : Heap} {C : Addr}
end
end K24

set_option maxHeartbeats 8000000
namespace K24
open PySem PySem.Spec PyProof.Rows L2 G1
theorem holdB_mono {m n : Nat} {zs : List Nat} (h : inB m n = true) (q : holdB m zs = true) : holdB n zs = true := by
  obtain ⟨z, hz, e⟩ := List.any_eq_true.mp q
  exact List.any_eq_true.mpr ⟨z, hz, inB_trans e h⟩
theorem leastS_sub {acc : List Nat} {y m : Nat} (h : m ∈ leastS acc y) : m ∈ acc ∨ m = y := by
  unfold leastS at h
  split at h
  · exact .inl h
  · rcases List.mem_append.mp h with q | q
    · exact .inl q
    · exact .inr (List.mem_singleton.mp q)
theorem fold_sub : ∀ {ys acc : List Nat} {m : Nat}, m ∈ ys.foldl leastS acc → m ∈ acc ∨ m ∈ ys
  | [], _, _, h => .inl h
  | y :: ys, acc, m, h => by
    rcases fold_sub (ys := ys) h with q | q
    · rcases leastS_sub q with q | q
      · exact .inl q
      · exact .inr (q ▸ List.mem_cons_self)
    · exact .inr (List.mem_cons_of_mem _ q)
/-- all of the least masks are held just when all masks are -/
theorem least_all {ys zs : List Nat} : ((leastM ys).all fun m => holdB m zs) = ys.all fun m => holdB m zs := by
  refine Bool.eq_iff_iff.mpr ⟨fun h => ?_, fun h => ?_⟩
  · refine List.all_eq_true.mpr fun y hy => ?_
    have q : holdB y (leastM ys) = true := by
      rw [holdB_least]
      exact List.any_eq_true.mpr ⟨y, hy, by rw [inB_iff, Nat.and_self]⟩
    obtain ⟨l, hl, e⟩ := List.any_eq_true.mp q
    exact holdB_mono e (List.all_eq_true.mp h l hl)
  · refine List.all_eq_true.mpr fun m hm => List.all_eq_true.mp h m ?_
    rcases fold_sub hm with q | q
    · cases q
    · exact q
theorem ours_ok {xs : List Str} {rs ts : List (List Str)} {z : Str} {os zs : List Nat} (h1 : LeastOf xs rs z os) (h2 : LeastOf xs ts z zs) : (os.all fun m => holdB m zs) = rs.all fun r => okB xs ts r z := by
  obtain ⟨ys, _, _, mem, _, rfl⟩ := h1
  rw [least_all]
  refine Bool.eq_iff_iff.mpr ⟨fun h => ?_, fun h => ?_⟩
  · refine List.all_eq_true.mpr fun r hr => ?_
    rw [← least_ok h2 r]
    exact List.all_eq_true.mp h _ ((mem _).mpr (List.mem_map.mpr ⟨r, hr, rfl⟩))
  · refine List.all_eq_true.mpr fun m hm => ?_
    obtain ⟨r, hr, rfl⟩ := List.mem_map.mp ((mem m).mp hm)
    rw [least_ok h2 r]
    exact List.all_eq_true.mp h r hr
def withinB (xs : List Str) (rs ts : List (List Str)) : Bool := rs.all fun r => r.all fun z => okB xs ts r z
def spWithin (C : Addr) : Sp := fun vs H Q _ => ∃ (a b : Addr) (xs : List Str) (rs ts : List (List Str)), vs = [.ref a, .ref b] ∧ PanF H C a xs rs ∧ PanF H C b xs ts ∧ Rw xs rs ∧ Rw xs ts ∧ ∀ H', Same H H' → Q (.bl (withinB xs rs ts)) H'
section
variable {P : Program} {w : World} {K : PySem.W.Frag} {mg : Str → Option Value} {base : Heap} {C : Addr}
end
end K24

set_option maxHeartbeats 8000000
namespace K24
open PySem PySem.Spec PyProof.Rows L2 G1
def beyondL (xs : List Str) (rs ts : List (List Str)) : List Str := xs.filter fun z => !(rs.all fun r => okB xs ts r z)
def spBeyond (C : Addr) : Sp := fun vs H Q _ => ∃ (a b : Addr) (xs : List Str) (rs ts : List (List Str)), vs = [.ref a, .ref b] ∧ PanF H C a xs rs ∧ PanF H C b xs ts ∧ Rw xs rs ∧ Rw xs ts ∧
  ∀ (D : Addr) (H' : Hp), Same H H' → H D = none → H' D = some (.lst ((beyondL xs rs ts).map V.str)) → Q (.ref D) H'
def scBeyIn : Scope := { kind := .function, names := [(Str.ofString ".0", .local), (Str.ofString "name", .cell), (Str.ofString "all", .globalImplicit), (Str.ofString "ours", .cell), (Str.ofString "theirs", .cell)], isGenerator := false, isCoroutine := false }
section
variable {P : Program} {w : World} {K : PySem.W.Frag} {mg : Str → Option Value} {base : Heap} {C : Addr}
end
end K24

set_option maxHeartbeats 4000000
/-! Dicts compared whose values may be lists: dict == dict, dict != dict. -/
namespace G1
open PySem PySem.Spec PyProof.Rows L2
/-- two dicts with the same keys, whatever their order, their values at most n deep -/
def Dicts2 (K : PySem.W.Frag) (H : Hp) (n : Nat) (x y : V) (b : Bool) : Prop := ∃ (a c : Addr) (ks ls : List (Key × V)) (e : Key → Bool), x = .ref a ∧ y = .ref c ∧ H a = some (.dK ks) ∧ H c = some (.dK ls) ∧ ks.length = ls.length ∧
  (∀ p ∈ ks, ∃ z, valV ls p.1 = some z ∧ EqW K H n p.2 z (e p.1)) ∧ b = ks.all fun p => e p.1
def rEqDW (K : PySem.W.Frag) (n : Nat) : R2 := fun x y H Q => ∃ b, Dicts2 K H n x y b ∧ Q (.bl b) H
def rNeDW (K : PySem.W.Frag) (n : Nat) : R2 := fun x y H Q => ∃ b, Dicts2 K H n x y b ∧ Q (.bl (!b)) H
section
variable {X : Cx} {n : Nat}
theorem hitsW {κ : Type} [DecidableEq κ] {pins : List (Addr × Obj)} {σ : L2.St} {H : Hp} {s : Shared} (I : Inv X pins σ H s) {A : Around} (hu : A.units + n < cLine) {kvs : List (κ × V)} {vb : List (κ × Value)} (rb : KV kvs vb) {e : κ → Bool} {ks : List (κ × V)} {va : List (κ × Value)} (ra : KV ks va) :
    (∀ p ∈ ks, ∃ z, valV kvs p.1 = some z ∧ EqW X.K H n p.2 z (e p.1)) → PySem.W.KeqHits A s vb va (ks.all fun p => e p.1) := by
  unfold KV at ra
  induction ra with
  | nil => intro _; exact .nil
  | @cons p q ps qs h t ih =>
    intro hp
    obtain ⟨h1, h2⟩ := h
    obtain ⟨z, ez, f⟩ := hp p List.mem_cons_self
    have rr : RelO (some z) (valueAt vb p.1) := by rw [← ez]; exact rb.val p.1
    obtain ⟨y, hy, ry⟩ := rr.some_of
    obtain ⟨k, v⟩ := q
    have h1' : p.1 = k := h1
    rw [h1'] at hy
    rw [List.all_cons]
    exact .hit hy (f.at I hu h2 ry) (ih fun p' hm => hp p' (List.mem_cons_of_mem _ hm))
theorem op_eqDW (hu : X.A.units + (n + 1) < cLine) : OpR X (compareOp .Eq) (rEqDW X.K n) := by
  intro pins s σ H x y v u Q I rx ry h
  obtain ⟨r, ⟨a, b, ks, ls, e, rfl, rfl, ea, eb, hlen, hp, rfl⟩, q⟩ := h
  obtain rfl : v = Value.ref a := rx
  obtain rfl : u = Value.ref b := ry
  obtain ⟨_, ya, va, ra, da⟩ := (show ObjOk X.prog X.w H s.heap a (.dK ks) from I.hok a _ ea)
  obtain ⟨_, yb, vb, rb, db⟩ := (show ObjOk X.prog X.w H s.heap b (.dK ls) from I.hok b _ eb)
  have hl : va.length = vb.length := by rw [← ra.length, ← rb.length]; exact hlen
  exact PySem.W.keq_eq (knd := mixKind X.prog X.w) ya yb da db (by omega) (fun _ => hitsW I (by have := units_in1 X.A; omega) rb ra hp) (fin_bl I q (by simp [hl]))
theorem op_neDW (hu : X.A.units + (n + 1) < cLine) : OpR X (compareOp .NotEq) (rNeDW X.K n) := by
  intro pins s σ H x y v u Q I rx ry h
  obtain ⟨r, ⟨a, b, ks, ls, e, rfl, rfl, ea, eb, hlen, hp, rfl⟩, q⟩ := h
  obtain rfl : v = Value.ref a := rx
  obtain rfl : u = Value.ref b := ry
  obtain ⟨_, ya, va, ra, da⟩ := (show ObjOk X.prog X.w H s.heap a (.dK ks) from I.hok a _ ea)
  obtain ⟨_, yb, vb, rb, db⟩ := (show ObjOk X.prog X.w H s.heap b (.dK ls) from I.hok b _ eb)
  have hl : va.length = vb.length := by rw [← ra.length, ← rb.length]; exact hlen
  exact PySem.W.keq_ne (knd := mixKind X.prog X.w) ya yb da db (by omega) (fun _ => hitsW I (by have := units_in1 X.A; omega) rb ra hp) (fin_bl I q (by simp [hl]))
/-- two dicts by names -/
theorem Dicts2.names {K : PySem.W.Frag} {H : Hp} {a c : Addr} {xs ys : List Str} {f g : Str → V} {e : Str → Bool} (ha : H a = some (.dK (dN xs f))) (hc : H c = some (.dK (dN ys g))) (hl : xs.length = ys.length) (hm : ∀ x ∈ xs, x ∈ ys) (he : ∀ x ∈ xs, EqW K H n (f x) (g x) (e x)) : Dicts2 K H n (.ref a) (.ref c) (xs.all e) := by
  refine ⟨a, c, _, _, fun k => match k with | .inr x => e x | .inl _ => false, rfl, rfl, ha, hc, by rw [dN_len, dN_len]; exact hl, fun p hp => ?_, ?_⟩
  · obtain ⟨x, hx, rfl⟩ := List.mem_map.mp hp
    exact ⟨_, dN_val (hm x hx), he x hx⟩
  · unfold dN
    rw [List.all_map]
    rfl
end
end G1

set_option maxHeartbeats 8000000
namespace K24
open PySem PySem.Spec PyProof.Rows L2 G1
theorem inB_le {n m : Nat} (h : inB n m = true) : n ≤ m := by
  rw [inB_iff] at h
  rw [← h]
  exact Nat.and_le_right
theorem inB_self {n : Nat} : inB n n = true := by rw [inB_iff, Nat.and_self]
/-- none of them holds another, and they ascend -/
def Anti (zs : List Nat) : Prop := zs.Pairwise (· < ·) ∧ ∀ a ∈ zs, ∀ b ∈ zs, inB a b = true → a = b
theorem fold_anti : ∀ {ys acc : List Nat}, Anti acc → ys.Pairwise (· < ·) → (∀ a ∈ acc, ∀ y ∈ ys, a < y) → Anti (ys.foldl leastS acc)
  | [], _, h, _, _ => h
  | y :: ys, acc, h, p, lt => by
    rw [List.pairwise_cons] at p
    refine fold_anti (ys := ys) ?_ p.2 ?_
    · unfold leastS
      cases e : holdB y acc with
      | true => exact h
      | false =>
        refine ⟨List.pairwise_append.mpr ⟨h.1, List.pairwise_singleton _ _, fun a ha b hb => ?_⟩, fun a ha b hb q => ?_⟩
        · rw [List.mem_singleton.mp hb]
          exact lt a ha y List.mem_cons_self
        · rcases List.mem_append.mp ha with ha | ha
          · rcases List.mem_append.mp hb with hb | hb
            · exact h.2 a ha b hb q
            · rw [List.mem_singleton.mp hb] at q
              have : holdB y acc = true := List.any_eq_true.mpr ⟨a, ha, q⟩
              rw [e] at this
              cases this
          · rcases List.mem_append.mp hb with hb | hb
            · have l1 := lt b hb y List.mem_cons_self
              have l2 := inB_le q
              rw [List.mem_singleton.mp ha] at l2
              omega
            · rw [List.mem_singleton.mp ha, List.mem_singleton.mp hb]
    · intro a ha z hz
      rcases leastS_sub ha with q | q
      · exact lt a q z (List.mem_cons_of_mem _ hz)
      · rw [q]
        exact p.1 z hz
theorem LeastOf.anti {xs : List Str} {rs : List (List Str)} {x : Str} {zs : List Nat} (h : LeastOf xs rs x zs) : Anti zs := by
  obtain ⟨ys, so, nd, _, _, rfl⟩ := h
  refine fold_anti ⟨List.Pairwise.nil, fun a ha => nomatch ha⟩ ?_ fun a ha => nomatch ha
  exact so.imp₂ (fun a b h1 h2 => Nat.lt_of_le_of_ne h1 h2) nd
theorem anti_sub {os zs : List Nat} (h1 : Anti os) (h : (os.all fun m => holdB m zs) = true) (q : (zs.all fun m => holdB m os) = true) : ∀ m ∈ os, m ∈ zs := fun m hm => by
  obtain ⟨z, hz, e1⟩ := List.any_eq_true.mp (List.all_eq_true.mp h m hm)
  obtain ⟨o, ho, e2⟩ := List.any_eq_true.mp (List.all_eq_true.mp q z hz)
  have e3 := h1.2 o ho m hm (inB_trans e2 e1)
  subst e3
  have e4 := Nat.le_antisymm (inB_le e2) (inB_le e1)
  rw [e4]
  exact hz
theorem anti_eq {os zs : List Nat} (h1 : Anti os) (h2 : Anti zs) : decide (os = zs) = ((os.all fun m => holdB m zs) && zs.all fun m => holdB m os) := by
  refine Bool.eq_iff_iff.mpr ⟨fun h => ?_, fun h => ?_⟩
  · obtain rfl := of_decide_eq_true h
    have a : (os.all fun m => holdB m os) = true := List.all_eq_true.mpr fun m hm => List.any_eq_true.mpr ⟨m, hm, inB_self⟩
    rw [a]
    rfl
  · rw [Bool.and_eq_true] at h
    refine decide_eq_true ?_
    have n1 : os.Nodup := h1.1.imp fun q => Nat.ne_of_lt q
    have n2 : zs.Nodup := h2.1.imp fun q => Nat.ne_of_lt q
    have p : os.Perm zs := (List.perm_ext_iff_of_nodup n1 n2).mpr fun m => ⟨anti_sub h1 h.1 h.2 m, anti_sub h2 h.2 h.1 m⟩
    exact p.eq_of_pairwise (fun a b _ _ q1 q2 => absurd q2 (Nat.lt_asymm q1)) h1.1 h2.1
/-- lists of masks compared -/
theorem eqW_msk {K : PySem.W.Frag} {H : Hp} {a b : Addr} {os zs : List Nat} (ha : H a = some (.lst (mskV os))) (hb : H b = some (.lst (mskV zs))) : EqW K H 1 (.ref a) (.ref b) (decide (os = zs)) := by
  by_cases e : a = b
  · subst e
    rw [ha] at hb
    have q : mskV os = mskV zs := by injection hb with hb; injection hb
    have : os = zs := by
      unfold mskV at q
      exact (List.map_inj_right fun x y h => by injection h with h; omega).mp q
    rw [decide_eq_true this]
    exact .same
  · by_cases l : os.length = zs.length
    · have q : EqW K H 1 (.ref a) (.ref b) ((List.range (mskV os).length).all fun i => decide (os[i]? = zs[i]?)) := by
        refine .lists e (SqL.of ha) (SqL.of hb) (by unfold mskV; rw [List.length_map, List.length_map]; exact l) fun i x y hx hy => ?_
        unfold mskV at hx hy
        rw [List.getElem?_map] at hx hy
        obtain ⟨m, hm, rfl⟩ := Option.map_eq_some_iff.mp hx
        obtain ⟨n, hn, rfl⟩ := Option.map_eq_some_iff.mp hy
        have : decide (os[i]? = zs[i]?) = eqV (.int (m : Int)) (.int (n : Int)) := by
          rw [hm, hn]
          show _ = ((m : Int) == (n : Int))
          refine Bool.eq_iff_iff.mpr ⟨fun h => ?_, fun h => ?_⟩
          · have := of_decide_eq_true h
            injection this with this
            rw [this]
            exact beq_self_eq_true _
          · have := eq_of_beq h
            exact decide_eq_true (by rw [show m = n by omega])
        rw [this]
        exact .flat rfl rfl
      have e2 : ((List.range (mskV os).length).all fun i => decide (os[i]? = zs[i]?)) = decide (os = zs) := by
        refine Bool.eq_iff_iff.mpr ⟨fun h => decide_eq_true (List.ext_getElem? fun i => ?_), fun h => ?_⟩
        · by_cases lt : i < os.length
          · exact of_decide_eq_true (List.all_eq_true.mp h i (List.mem_range.mpr (by unfold mskV; rw [List.length_map]; exact lt)))
          · rw [List.getElem?_eq_none (by omega), List.getElem?_eq_none (by omega)]
        · rw [of_decide_eq_true h]
          exact List.all_eq_true.mpr fun i _ => decide_eq_true rfl
      rw [← e2]
      exact q
    · rw [decide_eq_false fun q => l (by rw [q])]
      exact .lens e (SqL.of ha) (SqL.of hb) (by unfold mskV; rw [List.length_map, List.length_map]; exact l)
def alikeB (xs : List Str) (rs ts : List (List Str)) : Bool := xs.all fun z => (rs.all fun r => okB xs ts r z) && ts.all fun t => okB xs rs t z
def spAlike (C : Addr) : Sp := fun vs H Q _ => ∃ (a b : Addr) (xs : List Str) (rs ts : List (List Str)), vs = [.ref a, .ref b] ∧ PanF H C a xs rs ∧ PanF H C b xs ts ∧ Rw xs rs ∧ Rw xs ts ∧ ∀ H', Same H H' → Q (.bl (alikeB xs rs ts)) H'
section
variable {P : Program} {w : World} {K : PySem.W.Frag} {mg : Str → Option Value} {base : Heap} {C : Addr}
end
end K24

set_option maxHeartbeats 8000000
namespace K24
open PySem PySem.Spec PyProof.Rows L2 G1
section
variable {P : Program} {w : World} {K : PySem.W.Frag} {mg : Str → Option Value} {base : Heap}
abbrev sRows : Stmt := top 47
abbrev nRows : List Str := ["_law_purse_here", "_law_names_here", "_law_many", "_law_base", "_law_found", "_law_way", "_law_turn", "_law_row", "_law_cut", "_law_head", "_law_name"]
theorem scRows : FnScope nRows ["_law_purse_here", "_law_names_here", "_law_many"] (defScope sRows) := ⟨rfl, rfl, rfl, by decide +kernel, rfl, by decide +kernel, by decide +kernel⟩
theorem row_more {H H7 : Hp} {p Fo B R : Addr} {as : List Addr} {rs : List (List Str)} {xs rr bs : List Str} {i n : Nat} (hF : H7 Fo = some (.lst (as.map V.ref))) (hr : RowsAt H7 as rs) (h3 : ∀ a ∈ as, H a = none ∧ a ≠ Fo) (h4 : rs.length = i)
    (h5 : ∀ r ∈ rs, r.Perm xs) (hB : H7 B = some (.lst (bs.map V.str))) (nBF : B ≠ Fo) (hp : Purse H7 p n) (b : But p H H7) (nF : H Fo = none) (hR : H7 R = some (.lst (rr.map V.str))) (nR : H R = none) (nRF : R ≠ Fo) (pr : rr.Perm xs) :
    upd H7 Fo (.lst (as.map V.ref ++ [V.ref R])) Fo = some (.lst ((as ++ [R]).map V.ref)) ∧ RowsAt (upd H7 Fo (.lst (as.map V.ref ++ [V.ref R]))) (as ++ [R]) (rs ++ [rr]) ∧ (∀ a ∈ as ++ [R], H a = none ∧ a ≠ Fo) ∧ (rs ++ [rr]).length = i + 1 ∧
      (∀ r ∈ rs ++ [rr], r.Perm xs) ∧ upd H7 Fo (.lst (as.map V.ref ++ [V.ref R])) B = some (.lst (bs.map V.str)) ∧ Purse (upd H7 Fo (.lst (as.map V.ref ++ [V.ref R]))) p n ∧ But p H (upd H7 Fo (.lst (as.map V.ref ++ [V.ref R]))) := by
  have keep : ∀ a, a ≠ Fo → ∀ o, H7 a = some o → upd H7 Fo (.lst (as.map V.ref ++ [V.ref R])) a = some o := fun a na o e => by
    rw [upd_ne na]
    exact e
  have nFp : Fo ≠ p := ne_purse hF ref_no_int hp
  refine ⟨by rw [upd_same, List.map_append]; rfl, RowsAt.snoc (hr.keep fun a ha => keep a (h3 a ha).2) (keep R nRF _ hR), fun a ha => ?_, by rw [List.length_append, h4]; rfl, fun r hr2 => ?_, keep B nBF _ hB, hp.but (p := Fo) But.upd (Ne.symm nFp), but_new b nF⟩
  · rcases List.mem_append.mp ha with ha | ha
    · exact h3 a ha
    · rw [List.mem_singleton.mp ha]
      exact ⟨nR, nRF⟩
  · rcases List.mem_append.mp hr2 with h | h
    · exact h5 r h
    · rw [List.mem_singleton.mp h]
      exact pr
theorem ok_rows {f fS fD : Addr} {fd fdS fdD : FuncData} (F : FnP K "_law_rows_of" sRows f fd) (L : Lib K mg)
    (FS : FnP K "_law_shuffled" sShuf fS fdS) (gS : mg "_law_shuffled" = some (.ref fS)) (GS : FnOk P w K mg base CX0 3 fS fdS ["_law_purse_here", "_law_some"] (spShuf K))
    (FD : FnP K "_law_draw" sDraw fD fdD) (gD : mg "_law_draw" = some (.ref fD)) (GD : FnOk P w K mg base CX0 2 fD fdD ["_law_purse_here", "_law_many"] spDraw) :
    FnOk P w K mg base CX0 4 f fd ["_law_purse_here", "_law_names_here", "_law_many"] (spRows K) := by
  have bS : Binds K fdS ["_law_purse_here", "_law_some"] [] := FS.bindsN fun _ _ _ _ _ _ us hl => match us, hl with | [_, _], _ => rfl
  have bD : Binds K fdD ["_law_purse_here", "_law_many"] [] := FD.bindsN fun _ _ _ _ _ _ us hl => match us, hl with | [_, _], _ => rfl
  refine okN F scRows (fun vs H Q E h => ?_) (fun cdv A outer s H vs Q E hr h => ?_)
  · obtain ⟨_, _, _, _, _, rfl, _⟩ := h
    rfl
  · obtain ⟨p, n, m, c, xs, rfl, m1, m4, hp, hc, hS, np, nd, x1, x6, k⟩ := h
    have hr2 : Room 2 (A.deeper (envOfC "_law_rows_of" (defScope sRows) s.heap.objs.size f cdv)) := hr.mono (by decide)
    refine ⟨_, pss_cons (ps_par (i := 3) (j := 4) (by rfl) scRows.nd rfl rfl (by decide) rfl rfl (pa_cons (pe_call GS hr rfl gS FS.kp bS .nil pass0 (pa_cons (pv 0) (pa_cons (pv 1) pa_nil))) (pa_cons (pe_lst pa_nil) pa_nil)) (by rfl))
      (pss_cons (ps_set (i := 5) scRows.nd rfl (Or.inl rfl) (pe_call GD hr2 rfl gD FD.kp bD .nil pass0 (pa_cons (pv 0) (pa_cons pe_int pa_nil))))
      (pss_cons (ps_for PassesOwn.never rfl (pi_range1 rfl L.range (pa_cons (pv 2) pa_nil)) (pg_name (i := 6) scRows.nd rfl (Or.inl rfl))
        (pss_cons (ps_set (i := 7) scRows.nd rfl (Or.inl rfl) (pe_call GS hr rfl gS FS.kp bS .nil pass0 (pa_cons (pv 0) (pa_cons (pv 1) pa_nil))))
        (pss_cons (ps_if (pt_cmpR op_gt (pv 5) pe_int (nomark _))
          (pss_cons (ps_asg (pe_tup (pa_cons (pe_call GD hr2 rfl gD FD.kp bD .nil pass0 (pa_cons (pv 0) (pa_cons (pe_callB call_len_seq (by rfl) L.len PySem.boot_len (pa_cons (pv 1) pa_nil)) pa_nil)))
              (pa_cons (pe_slice sl_list (pv 7) po_none (po_some (pe_op op_sub (pe_op op_add (pe_call GD hr2 rfl gD FD.kp bD .nil pass0 (pa_cons (pv 0) (pa_cons pe_int pa_nil))) (pv 5)) pe_int))) pa_nil)))
              (pg_tup (n := 2) (by rfl) (pgs_cons (pg_name (i := 8) scRows.nd rfl (Or.inl rfl)) (pgs_cons (pg_name (i := 9) scRows.nd rfl (Or.inr rfl)) pgs_nil))))
          (pss_cons (ps_set (i := 7) scRows.nd rfl (Or.inl rfl) (pe_op op_cat (pv 9)
            (pe_lc (own := [("_law_name", 10)]) (g := gName 10) (tt := tTest (tOp (rIn K true) (tVar 10) (tVar 9))) (te := tVar 10) rfl scRows.nd (pi_list (pv 3))
              (blkOk_by (N := nRows) (sc := defScope sRows) (by decide +kernel)) (fun _ _ _ _ _ => pg_name (i := 10) scRows.nd rfl (Or.inl rfl))
              (fun _ _ _ _ _ => pts_one (pt_cmpR op_notIn_seq (pv 10) (pv 9) (by rfl))) (fun _ _ _ _ _ => pv 10))))
          (pss_one (ps_set (i := 7) scRows.nd rfl (Or.inl rfl) (pe_ifExp (pt_cmpR op_gt (pv 8) pe_int (nomark _)) (pv 7) (pe_revL (pv 7))))))) pss_nil)
        (pss_one (ps_expr (pe_bm PySem.F.plainAttrs_list PySem.F.slot_list_append PySem.F.type_list_append mt_append (pv 4) (pa_cons (pv 7) pa_nil)))))))
      (pss_one (ps_ret (pv 4))))), ?_⟩
    refine ⟨_, rfl, _, rfl, p, n, xs.map V.str, c, rfl, hp, by omega, hS, np, (by rw [List.length_map]; omega), fun B ys H1 perm hB nB hp1 hb1 => ?_⟩
    obtain ⟨bs, rfl, pb⟩ := perm_strs perm
    rw [List.length_map] at hp1
    refine ⟨Nat.zero_le _, fun Fo nF => ⟨_, _, rfl, ?_⟩⟩
    have s2 : Same H1 (upd H1 Fo (.lst [])) := sn nF
    have fF : upd H1 Fo (.lst []) Fo = some (.lst []) := upd_same
    have nFH : H Fo = none := new_back hb1 hp1 nF
    have nBF : B ≠ Fo := ne_of_none hB nF
    generalize upd H1 Fo (.lst []) = H2 at s2 fF ⊢
    refine ⟨_, rfl, p, 3, c + 3 * xs.length, rfl, by decide, by decide, hp1.same s2, by omega, fun way H3 w0 w3 hp3 hb3 => ?_⟩
    have nFp : Fo ≠ p := ne_purse fF (fun v hv => nomatch hv) (hp1.same s2)
    have nBp : B ≠ p := ne_purse hB str_no_int hp1
    have b3 : But p H H3 := (hb1.trans (But.same s2)).trans hb3
    refine ⟨_, rfl, m, rfl, by omega, by omega, ?_⟩
    refine for_range (lo := 0) (n := m.toNat) (fun i σ H' => ∃ (o6 o7 o8 o9 : Option V) (as : List Addr) (rs : List (List Str)), σ = [some (.ref p), some (.ref n), some (.int m), some (.ref B), some (.ref Fo), some (.int way), o6, o7, o8, o9, none] ∧
        H' Fo = some (.lst (as.map V.ref)) ∧ RowsAt H' as rs ∧ (∀ a ∈ as, H a = none ∧ a ≠ Fo) ∧ rs.length = i ∧ (∀ r ∈ rs, r.Perm xs) ∧ H' B = some (.lst (bs.map V.str)) ∧ Purse H' p (c + 30 + 30 * i) ∧ But p H H')
      ⟨none, none, none, none, [], [], rfl, hb3 _ _ nFp fF, .nil, (fun a ha => nomatch ha), rfl, (fun r hr => nomatch hr), hb3 _ _ nBp (s2 _ _ hB), hp3.mono (by omega), b3⟩ ?_ ?_
    · rintro i σ H4 hi ⟨o6, o7, o8, o9, as, rs, rfl, g1, g2, g3, g4, g5, g6, g7, g8⟩
      refine ⟨_, rfl, _, rfl, p, n, xs.map V.str, _, rfl, g7, by omega, SqL.but hS g8 np, np, (by rw [List.length_map]; omega), fun R ys H5 perm5 hR nR hp5 hb5 => ?_⟩
      obtain ⟨rr, rfl, pr⟩ := perm_strs perm5
      rw [List.length_map] at hp5
      have b5 : But p H H5 := g8.trans hb5
      have nRH : H R = none := new_back g8 g7 nR
      have nRF : R ≠ Fo := Ne.symm (ne_of_none g1 nR)
      have f5 : H5 Fo = some (.lst (as.map V.ref)) := hb5 _ _ nFp g1
      have r5 : RowsAt H5 as rs := g2.but hb5 g7
      have e5 : H5 B = some (.lst (bs.map V.str)) := hb5 _ _ nBp g6
      refine ⟨_, rfl, _, _, rfl, rfl, _, rfl, ?_⟩
      refine ite2 (fun _ => ?_) (fun _ => ?_)
      · -- the head of this row, the others in the order of the base
        have nRp : R ≠ p := ne_purse hR str_no_int hp5
        refine ⟨_, rfl, _, rfl, n, xs.map V.str, rfl, .inl (SqL.but hS b5 np), ?_⟩
        refine ⟨p, _, _, rfl, (by rw [List.length_map]; omega), (by rw [List.length_map]; omega), hp5, by omega, fun cut H6 c0 c1 hp6 hb6 => ?_⟩
        refine ⟨_, rfl, _, rfl, p, 3, _, rfl, by decide, by decide, hp6, by omega, fun q H7 q0 q3 hp7 hb7 => ?_⟩
        refine ⟨_, rfl, _, _, rfl, rfl, _, _, rfl, rfl, ?_⟩
        have w1 : 0 < way := of_decide_eq_true (by assumption)
        obtain ⟨t, ht⟩ := Int.eq_ofNat_of_zero_le (show 0 ≤ q + way - 1 by omega)
        refine ⟨_, rfl, ?_⟩
        rw [ht]
        have b57 : But p H5 H7 := hb6.trans hb7
        have hR7 := b57 _ _ nRp hR
        refine ⟨R, rr.map V.str, rfl, SqL.of hR7, fun Hd nHd => ?_⟩
        rw [cut_any, ← List.map_take]
        have s8 : Same H7 (upd H7 Hd (.lst ((rr.take t).map V.str))) := sn nHd
        have f8 : upd H7 Hd (.lst ((rr.take t).map V.str)) Hd = some (.lst ((rr.take t).map V.str)) := upd_same
        generalize upd H7 Hd (.lst ((rr.take t).map V.str)) = H8 at s8 f8 ⊢
        refine ⟨(show 2 ≤ sizeLine by decide), fun T nT => ⟨T, _, rfl, SqT.of upd_same, rfl, _, _, rfl, _, _, rfl, rfl, ?_⟩⟩
        have s9 : Same H8 (upd H8 T (.tup [.int cut, .ref Hd])) := sn nT
        generalize upd H8 T (.tup [.int cut, .ref Hd]) = H9 at s9 ⊢
        have s79 := s8.trans s9
        have nFp5 : Fo ≠ p := nFp
        have e9 : H9 B = some (.lst (bs.map V.str)) := s79 _ _ (b57 _ _ nBp e5)
        have f9 : H9 Fo = some (.lst (as.map V.ref)) := s79 _ _ (b57 _ _ nFp f5)
        have r9 : RowsAt H9 as rs := (r5.but b57 hp5).same s79
        have hp9 := hp7.same s79
        have b9 : But p H H9 := (b5.trans b57).trans (But.same s79)
        have h9 : H9 Hd = some (.lst ((rr.take t).map V.str)) := s9 _ _ f8
        refine ⟨_, rfl, _, rfl, B, rfl, ⟨_, SqL.of e9⟩, fun D2 hD2 => lc_list (K := K) (a := B) (xs := bs.map V.str)
          (fun i H' => H' D2 = some (.lst (((bs.take i).filter (fun z => decide (z ∉ rr.take t))).map V.str)) ∧ Same H9 H') ⟨upd_same, sn hD2⟩ (fun i H' _ h => SqL.of (h.2 _ _ e9)) ?_ ?_⟩
        · rintro j y H10 hj ⟨q1, q2⟩
          rw [List.getElem?_map] at hj
          obtain ⟨z, hz, rfl⟩ := Option.map_eq_some_iff.mp hj
          have tk : (bs.take (j + 1)).filter (fun z => decide (z ∉ rr.take t)) = (bs.take j).filter (fun z => decide (z ∉ rr.take t)) ++ [z].filter (fun z => decide (z ∉ rr.take t)) := by
            rw [List.take_succ, hz, List.filter_append]
            rfl
          refine ⟨rfl, _, rfl, _, rfl, Hd, (rr.take t).map V.str, rfl, .inl (SqL.of (q2 _ _ h9)), rfl, flat_strs, ?_⟩
          refine ⟨!decide (z ∈ rr.take t), by rw [if_pos rfl, inV_str], ?_⟩
          by_cases hm : z ∈ rr.take t
          · refine Eq.mpr (if_neg (show ¬ ((!decide (z ∈ rr.take t)) = true) by simp [hm])) ?_
            rw [tk, List.filter_cons_of_neg (by simp [hm]), List.filter_nil, List.append_nil]
            exact ⟨q1, q2⟩
          · refine Eq.mpr (if_pos (show (!decide (z ∈ rr.take t)) = true by simp [hm])) ?_
            refine ⟨_, rfl, _, q1, ?_, ?_, fun b o e => ?_⟩
            · refine small1000 ?_
              rw [List.length_map]
              have := List.length_filter_le (fun z => decide (z ∉ rr.take t)) (bs.take j)
              have := pb.length_eq
              have := List.length_take_le j bs
              have := List.length_take_le' j bs
              omega
            · rw [upd_same, tk, List.filter_cons_of_pos (by simp [hm]), List.filter_nil, List.map_append]
              rfl
            · rw [upd_ne (ne_of_none e hD2)]
              exact q2 _ _ e
        · rintro H10 ⟨q1, q2⟩
          rw [List.length_map, List.take_length] at q1
          have perm9 := mixed_perm nd pb pr t
          have len9 := perm9.length_eq
          rw [List.length_append] at len9
          refine ⟨Hd, D2, _, _, rfl, rfl, q2 _ _ h9, q1, ?_, fun C nC => ?_⟩
          · rw [List.length_map, List.length_map, len9]
            exact Nat.le_of_lt (small1000 (by omega))
          · rw [← List.map_append]
            generalize hmix : rr.take t ++ bs.filter (fun z => decide (z ∉ rr.take t)) = mx at perm9 ⊢
            have s10 : Same H9 (upd H10 C (.lst (mx.map V.str))) := q2.trans (sn nC)
            have fC : upd H10 C (.lst (mx.map V.str)) C = some (.lst (mx.map V.str)) := upd_same
            have nCH : H C = none := new_back (b9.trans (But.same q2)) (hp9.same q2) nC
            have nCF : C ≠ Fo := Ne.symm (ne_of_none (q2 _ _ f9) nC)
            generalize upd H10 C (.lst (mx.map V.str)) = H11 at s10 fC ⊢
            have e11 := s10 _ _ e9
            have f11 := s10 _ _ f9
            have r11 := r9.same s10
            have hp11 := hp9.same s10
            have b11 := b9.trans (But.same s10)
            refine ⟨_, rfl, _, _, rfl, rfl, _, rfl, ?_⟩
            refine ite2 (fun _ => ?_) (fun _ => ?_)
            · have q := row_more (i := i) f11 r11 g3 g4 g5 e11 nBF (hp11.mono (show _ ≤ c + 30 + 30 * (i + 1) by omega)) b11 nFH fC nCH nCF perm9
              refine ⟨_, rfl, _, rfl, .inl ⟨rfl, _, SqL.of f11⟩, _, rfl, Fo, as.map V.ref, .ref C, rfl, rfl, f11, small1000 (by rw [List.length_map, r11.len]; omega), ?_⟩
              exact ⟨_, _, _, _, as ++ [C], rs ++ [mx], rfl, q⟩
            · refine ⟨_, rfl, C, _, rfl, SqL.of fC, fun C2 nC2 => ?_⟩
              rw [← List.map_reverse]
              have s12 : Same H11 (upd H11 C2 (.lst (mx.reverse.map V.str))) := sn nC2
              have f12 : upd H11 C2 (.lst (mx.reverse.map V.str)) C2 = some (.lst (mx.reverse.map V.str)) := upd_same
              have nC2H : H C2 = none := new_back b11 hp11 nC2
              have nC2F : C2 ≠ Fo := Ne.symm (ne_of_none f11 nC2)
              generalize upd H11 C2 (.lst (mx.reverse.map V.str)) = H12 at s12 f12 ⊢
              have q := row_more (i := i) (s12 _ _ f11) (r11.same s12) g3 g4 g5 (s12 _ _ e11) nBF ((hp11.same s12).mono (show _ ≤ c + 30 + 30 * (i + 1) by omega)) (b11.trans (But.same s12)) nFH f12 nC2H nC2F (mx.reverse_perm.trans perm9)
              refine ⟨_, rfl, .inl ⟨rfl, _, SqL.of (s12 _ _ f11)⟩, _, rfl, Fo, as.map V.ref, .ref C2, rfl, rfl, s12 _ _ f11, small1000 (by rw [List.length_map, r11.len]; omega), ?_⟩
              exact ⟨_, _, _, _, as ++ [C2], rs ++ [mx.reverse], rfl, q⟩
      · have q := row_more (i := i) f5 r5 g3 g4 g5 e5 nBF (hp5.mono (show _ ≤ c + 30 + 30 * (i + 1) by omega)) b5 nFH hR nRH nRF pr
        refine ⟨_, rfl, .inl ⟨rfl, _, SqL.of f5⟩, _, rfl, Fo, as.map V.ref, .ref R, rfl, rfl, f5, small1000 (by rw [List.length_map, r5.len]; omega), ?_⟩
        exact ⟨_, _, _, _, as ++ [R], rs ++ [rr], rfl, q⟩
    · rintro σ H4 ⟨o6, o7, o8, o9, as, rs, rfl, g1, g2, g3, g4, g5, g6, g7, g8⟩
      exact ⟨_, rfl, k Fo as rs H4 g1 nFH g2 g3 (by omega) g5 (g7.mono (by omega)) g8⟩
end
end K24

set_option maxHeartbeats 8000000
namespace K24
open PySem PySem.Spec PyProof.Rows L2 G1
section
variable {P : Program} {w : World} {K : PySem.W.Frag} {mg : Str → Option Value} {base : Heap}
abbrev sWord : Stmt := top 45
theorem scWord : FnScope ["_law_purse_here", "_law_found", "_law_turn"] ["_law_purse_here"] (defScope sWord) := ⟨rfl, rfl, rfl, by decide +kernel, rfl, by decide +kernel, by decide +kernel⟩
theorem len1 (z : Str) (ch : Nat) : (z ++ (⟨#[ch]⟩ : Str)).length = z.length + 1 := by
  show (z.cps ++ #[ch]).size = z.cps.size + 1
  simp
theorem cps1 (z : Str) (ch : Nat) : (z ++ (⟨#[ch]⟩ : Str)).cps.toList = z.cps.toList ++ [ch] := by
  show (z.cps ++ #[ch]).toList = z.cps.toList ++ [ch]
  simp
theorem abc_at (r : Int) (h0 : 0 ≤ r) (h1 : r < 26) : ∃ c, atI ("abcdefghijklmnopqrstuvwxyz" : Str).cps.toList r = some c ∧ (97 ≤ c ∧ c ≤ 122) := by
  have key : ∀ n : Fin 26, (("abcdefghijklmnopqrstuvwxyz" : Str).cps.toList[n.1]?).any (fun c => decide (97 ≤ c ∧ c ≤ 122)) = true := by decide +kernel
  obtain ⟨k, rfl⟩ := Int.eq_ofNat_of_zero_le h0
  have hk := key ⟨k, by omega⟩
  cases e : ("abcdefghijklmnopqrstuvwxyz" : Str).cps.toList[k]? with
  | none =>
    rw [show ("abcdefghijklmnopqrstuvwxyz" : Str).cps.toList[(⟨k, by omega⟩ : Fin 26).1]? = none from e] at hk
    cases hk
  | some c =>
    rw [show ("abcdefghijklmnopqrstuvwxyz" : Str).cps.toList[(⟨k, by omega⟩ : Fin 26).1]? = some c from e] at hk
    exact ⟨c, by
      have q := e
      unfold atI
      obtain ⟨hlt, _⟩ := List.getElem?_eq_some_iff.mp q
      have := atI_nat (α := Nat) (xs := ("abcdefghijklmnopqrstuvwxyz" : Str).cps.toList) q
      unfold atI at this
      exact this, by simpa using hk⟩
theorem ok_word {f fD : Addr} {fd fdD : FuncData} (F : FnP K "_law_word" sWord f fd) (L : Lib K mg) (FD : FnP K "_law_draw" sDraw fD fdD) (gD : mg "_law_draw" = some (.ref fD))
    (GD : FnOk P w K mg base CX0 2 fD fdD ["_law_purse_here", "_law_many"] spDraw) : FnOk P w K mg base CX0 3 f fd ["_law_purse_here"] spWord := by
  have bD : Binds K fdD ["_law_purse_here", "_law_many"] [] := FD.bindsN fun _ _ _ _ _ _ us hl => match us, hl with | [_, _], _ => rfl
  refine okN F scWord (fun vs H Q E h => ?_) (fun cdv A outer s H vs Q E hr h => ?_)
  · obtain ⟨_, _, rfl, _⟩ := h
    rfl
  · obtain ⟨p, c, rfl, hp, hc, k⟩ := h
    refine ⟨_, pss_cons (ps_set (i := 1) scWord.nd rfl (Or.inl rfl) pe_str)
      (pss_cons (ps_for PassesOwn.never rfl (pi_range1 rfl L.range (pa_cons (pe_op op_add pe_int (pe_call GD hr rfl gD FD.kp bD .nil pass0 (pa_cons (pv 0) (pa_cons pe_int pa_nil)))) pa_nil)) (pg_name (i := 2) scWord.nd rfl (Or.inl rfl))
        (pss_one (ps_set (i := 1) scWord.nd rfl (Or.inl rfl) (pe_op op_add_str (pv 1) (pe_ix ix_str pe_str (pe_call GD hr rfl gD FD.kp bD .nil pass0 (pa_cons (pv 0) (pa_cons pe_int pa_nil))) (fun _ _ => rfl))))))
      (pss_one (ps_ret (pv 1)))), ?_⟩
    refine ⟨_, rfl, p, 8, c, rfl, by decide, by decide, hp, by omega, fun r H1 r0 r1 hp1 hb1 => ?_⟩
    refine ⟨_, _, rfl, rfl, _, rfl, by omega, by omega, ?_⟩
    generalize hn : (1 + r).toNat = n
    have n8 : n ≤ 8 := by omega
    have n1 : 1 ≤ n := by omega
    refine for_range (lo := 0) (n := n) (fun i σ H' => ∃ (z : Str) (o : Option V), σ = [some (.ref p), some (.str z), o] ∧ z.length = i ∧ Letters z ∧ Purse H' p (c + 3 + 3 * i) ∧ But p H H')
      ⟨_, none, rfl, rfl, (fun c hc => by cases hc), hp1.mono (by omega), hb1⟩ ?_ ?_
    · rintro i σ H' hi ⟨z, o, rfl, zl, zs, hp', hb'⟩
      refine ⟨_, rfl, _, rfl, p, 26, _, rfl, by decide, by decide, hp', by omega, fun q H2 q0 q1 hp2 hb2 => ?_⟩
      obtain ⟨ch, hch, hc26⟩ := abc_at q q0 q1
      refine ⟨_, q, ch, rfl, rfl, by decide +kernel, hch, _, _, rfl, rfl, ?_, _, _, rfl, ?_, ?_, hp2.mono (by omega), hb'.trans hb2⟩
      · show z.length + 1 ≤ sizeLine
        exact Nat.le_of_lt (small1000 (by omega))
      · rw [len1]
        omega
      · intro d hd
        rcases List.mem_append.mp (show d ∈ z.cps.toList ++ [ch] by rw [← cps1]; exact hd) with hd | hd
        · exact zs d hd
        · rw [List.mem_singleton.mp hd]
          exact hc26
    · rintro σ H' ⟨z, o, rfl, zl, zs, hp', hb'⟩
      exact ⟨_, rfl, k z H' ⟨by omega, by omega, zs⟩ (hp'.mono (by omega)) hb'⟩
end
end K24

set_option maxHeartbeats 8000000
namespace K24
open PySem PySem.Spec PyProof.Rows L2 G1
section
variable {P : Program} {w : World} {K : PySem.W.Frag} {mg : Str → Option Value} {base : Heap}
abbrev sNames : Stmt := top 46
abbrev nNames : List Str := ["_law_purse_here", "_law_many", "_law_some", "_law_fresh", "_law_word_here"]
theorem scNames : FnScope nNames ["_law_purse_here", "_law_many"] (defScope sNames) := ⟨rfl, rfl, rfl, by decide +kernel, rfl, by decide +kernel, by decide +kernel⟩
theorem ok_names {f fS fW : Addr} {fd fdS fdW : FuncData} (F : FnP K "_law_names" sNames f fd) (L : Lib K mg) (ls : mg "sorted" = none)
    (FS : FnP K "_law_shuffled" sShuf fS fdS) (gS : mg "_law_shuffled" = some (.ref fS)) (GS : FnOk P w K mg base CX0 3 fS fdS ["_law_purse_here", "_law_some"] (spShuf K))
    (FW : FnP K "_law_word" sWord fW fdW) (gW : mg "_law_word" = some (.ref fW)) (GW : FnOk P w K mg base CX0 3 fW fdW ["_law_purse_here"] spWord) : FnOk P w K mg base CX0 4 f fd ["_law_purse_here", "_law_many"] spNames := by
  have bS : Binds K fdS ["_law_purse_here", "_law_some"] [] := FS.bindsN fun _ _ _ _ _ _ us hl => match us, hl with | [_, _], _ => rfl
  have bW : Binds K fdW ["_law_purse_here"] [] := FW.bindsN fun _ _ _ _ _ _ us hl => match us, hl with | [_], _ => rfl
  refine okN F scNames (fun vs H Q E h => ?_) (fun cdv A outer s H vs Q E hr h => ?_)
  · obtain ⟨_, _, _, rfl, _⟩ := h
    rfl
  · obtain ⟨p, m, c, rfl, m1, m6, hp, hc, k⟩ := h
    refine ⟨_, pss_cons (ps_asg (pe_tup (pa_cons (pe_lst (pa_cons pe_str (pa_cons pe_str (pa_cons pe_str (pa_cons pe_str (pa_cons pe_str (pa_cons pe_str (pa_cons pe_str (pa_cons pe_str pa_nil)))))))))
          (pa_cons (pe_call GW hr rfl gW FW.kp bW .nil pass0 (pa_cons (pv 0) pa_nil)) pa_nil)))
          (pg_tup (n := 2) (by rfl) (pgs_cons (pg_name (i := 2) scNames.nd rfl (Or.inr rfl)) (pgs_cons (pg_name (i := 3) scNames.nd rfl (Or.inl rfl)) pgs_nil))))
      (pss_one (ps_ret (pe_callB cr_sortedS (by rfl) ls (by decide +kernel) (pa_cons (pe_slice sl_list (pe_call GS hr rfl gS FS.kp bS .nil pass0 (pa_cons (pv 0) (pa_cons (pe_op op_cat (pv 2)
        (pe_lc (own := [("_law_word_here", 4)]) (g := gName 4) (tt := tTest (tOp (rIn K true) (tVar 4) (tVar 2))) (te := tVar 4) rfl scNames.nd (pi_list (pe_lst (pa_cons (pv 3) pa_nil)))
          (blkOk_by (N := nNames) (sc := defScope sNames) (by decide +kernel)) (fun _ _ _ _ _ => pg_name (i := 4) scNames.nd rfl (Or.inl rfl))
          (fun _ _ _ _ _ => pts_one (pt_cmpR op_notIn_seq (pv 4) (pv 2) (by rfl))) (fun _ _ _ _ _ => pv 4))) pa_nil))) po_none (po_some (pv 1))) pa_nil)))), ?_⟩
    obtain ⟨k1, rfl⟩ := Int.eq_ofNat_of_zero_le (show 0 ≤ m by omega)
    have sz2 : 2 ≤ sizeLine := by decide
    refine ⟨by decide, fun l8 n8 => ?_⟩
    have f8 : upd H l8 (.lst (some8.map V.str)) l8 = some (.lst (some8.map V.str)) := upd_same
    have s0 : Same H (upd H l8 (.lst (some8.map V.str))) := sn n8
    refine ⟨_, rfl, p, c, rfl, hp.same s0, by omega, fun z H1 hz hp1 hb1 => ?_⟩
    have n8p : l8 ≠ p := by
      obtain ⟨pxs, hpx, _⟩ := id hp
      exact Ne.symm (ne_of_none hpx n8)
    have g8 : H1 l8 = some (.lst (some8.map V.str)) := hb1 _ _ n8p f8
    have b1 : But p H H1 := (But.same s0).trans hb1
    refine ⟨sz2, fun T nT => ⟨T, _, rfl, SqT.of upd_same, rfl, _, _, rfl, _, _, rfl, rfl, ?_⟩⟩
    have s2 : Same H1 (upd H1 T (.tup [.ref l8, .str z])) := sn nT
    generalize upd H1 T (.tup [.ref l8, .str z]) = H2 at s2 ⊢
    refine ⟨_, rfl, _, rfl, _, rfl, (show 1 ≤ sizeLine from by decide), fun l1 n1 => ?_⟩
    have s3 : Same H2 (upd H2 l1 (.lst [.str z])) := sn n1
    have f1 : upd H2 l1 (.lst [.str z]) l1 = some (.lst [.str z]) := upd_same
    generalize upd H2 l1 (.lst [.str z]) = H3 at s3 f1 ⊢
    have h8 : H3 l8 = some (.lst (some8.map V.str)) := s3 _ _ (s2 _ _ g8)
    refine ⟨l1, rfl, ⟨_, SqL.of f1⟩, fun D2 hD2 => lc_list (K := K) (a := l1) (xs := [.str z]) (fun i H' => H' D2 = some (.lst (if i = 0 then [] else if z ∈ some8 then [] else [.str z])) ∧ Same H3 H') ⟨upd_same, sn hD2⟩ (fun i H' _ h => SqL.of (h.2 _ _ f1)) ?_ ?_⟩
    · rintro i y H4 hi ⟨g1, g2⟩
      have hi0 : i = 0 ∧ y = .str z := by
        match i, hi with
        | 0, hi => exact ⟨rfl, (Option.some.inj hi).symm⟩
        | (j + 1), hi => cases hi
      obtain ⟨rfl, rfl⟩ := hi0
      refine ⟨rfl, _, rfl, _, rfl, l8, some8.map V.str, rfl, .inl (SqL.of (g2 _ _ h8)), rfl, flat_strs, ?_⟩
      refine ⟨!decide (z ∈ some8), by rw [if_pos rfl, inV_str], ?_⟩
      rw [if_pos rfl] at g1
      by_cases h : z ∈ some8
      · rw [if_neg (by simp [h]), if_neg (show ¬ (0 + 1 = 0) by decide), if_pos h]
        exact ⟨g1, g2⟩
      · rw [if_pos (by simp [h])]
        refine ⟨_, rfl, [], g1, (show 0 < sizeLine by decide), ?_, fun b o e => ?_⟩
        · rw [if_neg (show ¬ (0 + 1 = 0) by decide), if_neg h]
          exact upd_same
        · rw [upd_ne (ne_of_none e hD2)]
          exact g2 _ _ e
    · rintro H4 ⟨g1, g2⟩
      rw [if_neg (show ¬ ([V.str z].length = 0) from Nat.one_ne_zero), nil_or] at g1
      refine ⟨l8, D2, _, _, rfl, rfl, g2 _ _ h8, g1, ?_, fun C nC => ?_⟩
      · have q := nine_len z
        unfold nine at q
        rw [List.length_append] at q
        rw [List.length_map, List.length_map]
        exact Nat.le_of_lt (small1000 (by omega))
      · rw [← List.map_append, show (some8 ++ (if z ∈ some8 then [] else [z])) = nine z from rfl]
        have s4 : Same H4 (upd H4 C (.lst ((nine z).map V.str))) := sn nC
        have fC : upd H4 C (.lst ((nine z).map V.str)) C = some (.lst ((nine z).map V.str)) := upd_same
        have s14 : Same H1 (upd H4 C (.lst ((nine z).map V.str))) := ((s2.trans s3).trans g2).trans s4
        have hp4 := hp1.same s14
        have ql := nine_len z
        have nCp : C ≠ p := by
          obtain ⟨pxs, hpx, _⟩ := hp1.same ((s2.trans s3).trans g2)
          exact Ne.symm (ne_of_none hpx nC)
        generalize upd H4 C (.lst ((nine z).map V.str)) = H5 at s4 fC s14 hp4 ⊢
        refine ⟨p, C, (nine z).map V.str, c + 27, rfl, hp4, by omega, SqL.of fC, nCp, (by rw [List.length_map]; omega), fun D ys H6 perm hD nD hp6 hb6 => ?_⟩
        obtain ⟨zs, rfl, pz⟩ := perm_strs perm
        have lz := pz.length_eq
        have b6 : But p H H6 := (b1.trans (But.same s14)).trans hb6
        refine ⟨_, rfl, _, rfl, D, zs.map V.str, rfl, SqL.of hD, fun E2 nE => ?_⟩
        rw [cut_take (by rw [List.length_map]; omega), ← List.map_take]
        have s7 : Same H6 (upd H6 E2 (.lst ((zs.take k1).map V.str))) := sn nE
        have fE : upd H6 E2 (.lst ((zs.take k1).map V.str)) E2 = some (.lst ((zs.take k1).map V.str)) := upd_same
        generalize upd H6 E2 (.lst ((zs.take k1).map V.str)) = H7 at s7 fE ⊢
        refine ⟨E2, zs.take k1, rfl, SqL.of fE, (by rw [List.length_take]; omega), fun us G perm2 so nG => ?_⟩
        have hp7 := hp6.same s7
        have b7 : But p H H7 := b6.trans (But.same s7)
        have nGH : H G = none := by
          cases e : H G with
          | none => rfl
          | some o =>
            obtain ⟨pxs, hpx, _⟩ := id hp7
            have := b7 _ _ (Ne.symm (ne_of_none hpx nG)) e
            rw [nG] at this
            cases this
        have len : us.length = k1 := by
          rw [perm2.length_eq, List.length_take]
          omega
        have memz : ∀ x ∈ us, x ∈ nine z := fun x hx => pz.mem_iff.mp (List.mem_of_mem_take (perm2.mem_iff.mp hx))
        refine k G us _ ⟨fun x hx => nine_nm hz x (memz x hx), ?_, so, ?_⟩ (by omega) upd_same nGH ((hp7.same (sn nG)).mono (by rw [List.length_map]; omega)) (but_new b7 nGH)
        · exact perm2.nodup_iff.mpr (List.Nodup.sublist (List.take_sublist _ _) (pz.nodup_iff.mpr (nine_nd z)))
        · exact (nine_st z).imp (fun h q => h (memz _ q)) (fun h q => h (memz _ q))
end
end K24

set_option maxHeartbeats 8000000
namespace K24
open PySem PySem.Spec PyProof.Rows L2 G1
def spPurses (K : PySem.W.Frag) : Sp := fun vs H Q _ => ∃ (a : Addr) (few : Int) (ns : List Int), vs = [.ref a, .int few] ∧ SqL K H a (ns.map V.int) ∧ few ≤ 100 ∧
  ∀ (D : Addr) (ps : List Addr) (H' : Hp), H D = none → H' D = some (.lst (ps.map V.ref)) → (∀ p ∈ ps, Purse H' p 0 ∧ p ≠ D) → ps.length ≤ 100 → Same H H' → Q (.ref D) H'
/-- the same, with how many they are -/
def spPursesS (K : PySem.W.Frag) : Sp := fun vs H Q _ => ∃ (a : Addr) (few : Int) (ns : List Int), vs = [.ref a, .int few] ∧ SqL K H a (ns.map V.int) ∧ few ≤ 100 ∧
  ∀ (D : Addr) (ps : List Addr) (H' : Hp), H D = none → H' D = some (.lst (ps.map V.ref)) → (∀ p ∈ ps, Purse H' p 0 ∧ p ≠ D) → ps.length ≤ 100 ∧ ((ps.length : Int) ≤ 1 ∨ (ps.length : Int) ≤ few) → Same H H' → Q (.ref D) H'
section
variable {P : Program} {w : World} {K : PySem.W.Frag} {mg : Str → Option Value} {base : Heap}
abbrev sPurses : Stmt := top 42
theorem scPurses : FnScope ["_law_script", "_law_few", "_law_at"] ["_law_script", "_law_few"] (defScope sPurses) := ⟨rfl, rfl, rfl, by decide +kernel, rfl, by decide +kernel, by decide +kernel⟩
theorem ok_pursesS {f fP : Addr} {fd fdP : FuncData} (F : FnP K "_law_purses" sPurses f fd) (L : Lib K mg) (FP : FnP K "_law_purse" sPurse fP fdP) (gP : mg "_law_purse" = some (.ref fP)) :
    FnOk P w K mg base CX0 2 f fd ["_law_script", "_law_few"] (spPursesS K) := by
  have GP : FnOk P w K mg base CX0 1 fP fdP ["_law_script", "_law_at"] (spPurse K) := ok_purse FP L
  have bP : Binds K fdP ["_law_script", "_law_at"] [] := FP.bindsN fun _ _ _ _ _ _ us hl => match us, hl with | [_, _], _ => rfl
  refine okN F scPurses (fun vs H Q E h => ?_) (fun cdv A outer s H vs Q E hr h => ?_)
  · obtain ⟨_, _, _, rfl, _⟩ := h
    rfl
  · obtain ⟨a, few, ns, rfl, hS, f1, k⟩ := h
    refine ⟨_, pss_one (ps_ret (pe_lc (own := [("_law_at", 2)]) (g := gName 2) (tt := tYes) rfl scPurses.nd
      (pi_range1 rfl L.range (pa_cons (pe_callB (call_max2 rfl) (by rfl) L.max (by decide +kernel) (pa_cons pe_int (pa_cons (pe_callB (call_min2 rfl) (by rfl) L.min (by decide +kernel) (pa_cons (pv 1) (pa_cons (pe_callB call_len_seq (by rfl) L.len PySem.boot_len (pa_cons (pv 0) pa_nil)) pa_nil))) pa_nil))) pa_nil))
      (blkOk_by (N := ["_law_script", "_law_few", "_law_at"]) (sc := defScope sPurses) (by decide +kernel)) (fun _ _ _ _ _ => pg_name (i := 2) scPurses.nd rfl (Or.inl rfl)) (fun _ _ _ _ _ => pts_nil)
      (fun _ _ _ _ _ => pe_call GP hr rfl gP FP.kp bP .nil pass0 (pa_cons (pv 0) (pa_cons (pv 2) pa_nil))))), ?_⟩
    refine ⟨_, rfl, _, rfl, a, _, rfl, .inl hS, _, _, rfl, _, _, rfl, ?_⟩
    generalize hj : (if (if ((ns.map V.int).length : Int) < few then ((ns.map V.int).length : Int) else few) > 1 then (if ((ns.map V.int).length : Int) < few then ((ns.map V.int).length : Int) else few) else (1 : Int)) = j
    have j1 : j ≤ 100 := by
      rw [← hj]
      split <;> (try split) <;> omega
    have j2 : j ≤ 1 ∨ j ≤ few := by
      rw [← hj]
      split <;> (try split) <;> omega
    have j0 : 1 ≤ j := by
      rw [← hj]
      split <;> (try split) <;> omega
    refine ⟨j, rfl, by omega, by omega, fun D hD => lc_range (lo := 0) (n := j.toNat) (fun i H' => ∃ ps : List Addr, ps.length = i ∧ H' D = some (.lst (ps.map V.ref)) ∧ (∀ p ∈ ps, Purse H' p 0 ∧ p ≠ D) ∧ Same H H')
      ⟨[], rfl, upd_same, (fun p hp => nomatch hp), fun b o e => by rw [upd_ne (ne_of_none e hD)]; exact e⟩ ?_ ?_⟩
    · rintro i H' hi ⟨ps, hl, hD', hps, sm⟩
      have hi2 : i ≤ 100 := by omega
      refine ⟨rfl, _, rfl, _, rfl, a, (0 : Int) + (i : Int), ns, rfl, sm.seq hS, by omega, by omega, fun p H2 np hp s2 => ?_⟩
      have npD : p ≠ D := fun q => by
        rw [q, hD'] at np
        cases np
      refine ⟨ps.map V.ref, s2 _ _ hD', small1000 (by rw [List.length_map]; omega), ps ++ [p], by simp [hl], by rw [upd_same, List.map_append]; rfl, fun q hq => ?_, fun b o e => ?_⟩
      · rcases List.mem_append.mp hq with hq | hq
        · obtain ⟨h1, h2⟩ := hps q hq
          exact ⟨(h1.same s2).but (p := D) But.upd h2, h2⟩
        · rw [List.mem_singleton.mp hq]
          exact ⟨hp.but (p := D) But.upd npD, npD⟩
      · rw [upd_ne (ne_of_none e hD)]
        exact s2 _ _ (sm _ _ e)
    · rintro H' ⟨ps, hl, hD', hps, sm⟩
      exact k D ps H' hD hD' hps ⟨by omega, by omega⟩ sm
theorem ok_purses {f fP : Addr} {fd fdP : FuncData} (F : FnP K "_law_purses" sPurses f fd) (L : Lib K mg) (FP : FnP K "_law_purse" sPurse fP fdP) (gP : mg "_law_purse" = some (.ref fP)) :
    FnOk P w K mg base CX0 2 f fd ["_law_script", "_law_few"] (spPurses K) :=
  (ok_pursesS F L FP gP).imp fun _ _ _ _ ⟨a, few, ns, e, h1, h2, k⟩ => ⟨a, few, ns, e, h1, h2, fun D ps H' n hD hp l s => k D ps H' n hD hp l.1 s⟩
end
end K24

set_option maxHeartbeats 8000000
namespace K24
open PySem PySem.Spec PyProof.Rows L2 G1
theorem lists_nats {K : PySem.W.Frag} {H : Hp} {a c : Addr} {ns : List Nat} (ha : SqL K H a (natsV ns)) (hc : SqL K H c (natsV ns)) : Lists2 K H 0 (.ref a) (.ref c) true := by
  refine ⟨a, c, _, _, rfl, rfl, ha, hc, .inr ⟨rfl, fun _ => true, fun i x y hx hy => ?_, by simp⟩⟩
  rw [hx] at hy
  obtain rfl := Option.some.inj hy
  unfold natsV at hx
  rw [List.getElem?_map] at hx
  obtain ⟨j, _, rfl⟩ := Option.map_eq_some_iff.mp hx
  have e : eqV (.int (j : Int)) (.int (j : Int)) = true := by
    show ((j : Int) == (j : Int)) = true
    simp
  show EqW K H 0 (.int (j : Int)) (.int (j : Int)) true
  rw [← e]
  exact .flat rfl rfl
theorem lists_strs2 {K : PySem.W.Frag} {H : Hp} {a c : Addr} {xs : List Str} (ha : SqL K H a (xs.map V.str)) (hc : SqL K H c (xs.map V.str)) : Lists2 K H 0 (.ref a) (.ref c) true := by
  have q := lists_strs ha hc
  rwa [decide_eq_true rfl] at q
theorem sorted_ext {xs ys : List Str} (h1 : sortedS xs = true) (h2 : sortedS ys = true) (n1 : xs.Nodup) (n2 : ys.Nodup) (e : ∀ z, z ∈ xs ↔ z ∈ ys) : xs = ys := sorted_uniq h1 h2 ((List.perm_ext_iff_of_nodup n1 n2).mpr fun z => e z)
/-! ### all fields -/
def subsS (acc : List (List Str)) (x : Str) : List (List Str) := acc ++ acc.map (· ++ [x])
def subs (xs : List Str) : List (List Str) := xs.foldl subsS [[]]
theorem subs_subl : ∀ (xs pre : List Str) (acc : List (List Str)), (∀ fs ∈ acc, fs.Sublist pre) → ∀ fs ∈ xs.foldl subsS acc, fs.Sublist (pre ++ xs)
  | [], pre, acc, h, fs, hf => by rw [List.append_nil]; exact h fs hf
  | x :: xs, pre, acc, h, fs, hf => by
    have q := subs_subl xs (pre ++ [x]) (subsS acc x) (fun gs hg => by
      rcases List.mem_append.mp hg with hg | hg
      · exact (h gs hg).trans (List.sublist_append_left _ _)
      · obtain ⟨g0, hg0, rfl⟩ := List.mem_map.mp hg
        exact List.Sublist.append (h g0 hg0) (.refl _)) fs hf
    rw [List.append_assoc] at q
    exact q
theorem subs_head : ∀ (xs : List Str) (t0 : List (List Str)), (∀ fs ∈ t0, 1 ≤ fs.length) → ∃ t, xs.foldl subsS ([] :: t0) = [] :: t ∧ ∀ fs ∈ t, 1 ≤ fs.length
  | [], t0, h => ⟨t0, rfl, h⟩
  | x :: xs, t0, h => by
    refine subs_head xs (t0 ++ ([] :: t0).map (· ++ [x])) fun fs hf => ?_
    rcases List.mem_append.mp hf with hf | hf
    · exact h fs hf
    · obtain ⟨g0, _, rfl⟩ := List.mem_map.mp hf
      rw [List.length_append]
      exact Nat.le_add_left _ _
theorem subs_len : ∀ (xs : List Str) (acc : List (List Str)), (xs.foldl subsS acc).length = acc.length * 2 ^ xs.length
  | [], acc => by simp
  | x :: xs, acc => by
    show (xs.foldl subsS (subsS acc x)).length = _
    rw [subs_len xs (subsS acc x)]
    unfold subsS
    rw [List.length_append, List.length_map, List.length_cons, Nat.pow_succ]
    rw [← Nat.two_mul, Nat.mul_assoc, Nat.mul_left_comm, Nat.mul_comm 2]
theorem subs_drop {xs fs : List Str} (h : fs ∈ (subs xs).drop 1) : fs.Sublist xs ∧ 1 ≤ fs.length := by
  obtain ⟨t, e, k⟩ := subs_head xs [] (fun fs hf => nomatch hf)
  have h2 : fs ∈ t := by
    unfold subs at h
    rw [e] at h
    exact h
  refine ⟨?_, k fs h2⟩
  have q := subs_subl xs [] [[]] (fun fs hf => by rw [List.mem_singleton.mp hf]; exact .refl _) fs (by rw [e]; exact List.mem_cons_of_mem _ h2)
  exact q
theorem pow_le5 {n : Nat} (h : n ≤ 7) : 2 ^ n ≤ 128 := Nat.pow_le_pow_right (by decide) h
theorem subs_le {xs : List Str} (h : xs.length ≤ 7) : (subs xs).length ≤ 128 := by
  unfold subs
  rw [subs_len, List.length_singleton, Nat.one_mul]
  exact pow_le5 h
theorem subs_le9 {xs : List Str} (h : xs.length ≤ 9) : (subs xs).length ≤ 512 := by
  unfold subs
  rw [subs_len, List.length_singleton, Nat.one_mul]
  exact Nat.pow_le_pow_right (by decide) h
theorem filter_first {r fs : List Str} : (r.filter fun y => decide (y ∈ fs)).take 1 = (fst? fs r).toList := by
  have q : (r.filter fun y => decide (y ∈ fs)).head? = fst? fs r := by rw [List.head?_filter]; rfl
  rw [← q]
  cases r.filter (fun y => decide (y ∈ fs)) with
  | nil => rfl
  | cons a t => rfl
/-- the cards of a field, where some rows may have none of it -/
def cdsOf (fs : List Str) (rs : List (List Str)) : List Str := rs.filterMap (fst? fs)
theorem cds_len {fs : List Str} {rs : List (List Str)} : (cdsOf fs rs).length ≤ rs.length := List.length_filterMap_le _ _
theorem cds_succ {fs r : List Str} {rs : List (List Str)} {i : Nat} (h : rs[i]? = some r) : cdsOf fs (rs.take (i + 1)) = cdsOf fs (rs.take i) ++ (fst? fs r).toList := by
  unfold cdsOf
  rw [List.take_succ, h, List.filterMap_append]
  show _ ++ [r].filterMap (fst? fs) = _
  cases e : fst? fs r with
  | none => rw [List.filterMap_cons_none e]; rfl
  | some z => rw [List.filterMap_cons_some e]; rfl
def spLC (K : PySem.W.Frag) : Sp := fun vs H Q _ => ∃ (R f : Addr) (as : List Addr) (rs : List (List Str)) (fs : List Str), vs = [.ref R, .ref f] ∧ H R = some (.lst (as.map V.ref)) ∧ RowsAt H as rs ∧ H f = some (.lst (fs.map V.str)) ∧ (∀ r ∈ rs, r.length ≤ 100) ∧ rs.length ≤ 60 ∧
  ∀ (ys : List Str) (D : Addr) (H' : Hp), Same H H' → H D = none → H' D = some (.lst (ys.map V.str)) → sortedS ys = true → ys.Nodup → (∀ z, z ∈ ys ↔ z ∈ cdsOf fs rs) → ys.length ≤ rs.length → Q (.ref D) H'
def spFlds (K : PySem.W.Frag) : Sp := fun vs H Q _ => ∃ (n : Addr) (xs : List Str), vs = [.ref n] ∧ H n = some (.lst (xs.map V.str)) ∧ xs.length ≤ 10 ∧
  ∀ (D : Addr) (ls : List Addr) (H' : Hp), Same H H' → H D = none → H' D = some (.lst (ls.map V.ref)) → RowsAt H' ls ((subs xs).drop 1) → Q (.ref D) H'
section
variable {P : Program} {w : World} {K : PySem.W.Frag} {mg : Str → Option Value} {base : Heap} {C : Addr}
abbrev sLC : Stmt := top 48
abbrev nLC : List Str := ["_law_rows", "_law_field", "_law_found", "_law_row", "_law_name"]
theorem scLC : FnScope nLC ["_law_rows", "_law_field"] (defScope sLC) := ⟨rfl, rfl, rfl, by decide +kernel, rfl, by decide +kernel, by decide +kernel⟩
theorem ok_lawCards {f : Addr} {fd : FuncData} (F : FnP K "_law_cards" sLC f fd) (LP : LibP mg) : FnOk P w K mg base CX0 1 f fd ["_law_rows", "_law_field"] (spLC K) := by
  refine okN F scLC (fun vs H Q E h => ?_) (fun cdv A outer s H vs Q E hr h => ?_)
  · obtain ⟨_, _, _, _, _, rfl, _⟩ := h
    rfl
  · obtain ⟨R, fa, as, rs, fs, rfl, hR, has, hf, lr, l60, k⟩ := h
    refine ⟨_, pss_cons (ps_set (i := 2) scLC.nd rfl (Or.inl rfl) (pe_lst pa_nil))
      (pss_cons (ps_for PassesOwn.never rfl (pi_list (pv 0)) (pg_name (i := 3) scLC.nd rfl (Or.inl rfl))
        (pss_one (ps_set (i := 2) scLC.nd rfl (Or.inl rfl) (pe_op op_cat (pv 2) (pe_slice sl_list
          (pe_lc (own := [("_law_name", 4)]) (g := gName 4) (tt := tTest (tOp (rIn K false) (tVar 4) (tVar 1))) (te := tVar 4) rfl scLC.nd (pi_list (pv 3))
            (blkOk_by (N := nLC) (sc := defScope sLC) (by decide +kernel)) (fun _ _ _ _ _ => pg_name (i := 4) scLC.nd rfl (Or.inl rfl)) (fun _ _ _ _ _ => pts_one (pt_cmpR op_in_seq (pv 4) (pv 1) (by rfl))) (fun _ _ _ _ _ => pv 4)) po_none (po_some pe_int))))))
      (pss_one (ps_ret (pe_sortS rfl (by rfl) LP.sorted (by rfl) LP.set (pv 2))))), ?_⟩
    refine ⟨Nat.zero_le _, fun F0 nF => ⟨_, rfl, R, rfl, ⟨_, SqL.of (sn nF _ _ hR)⟩, for_list (K := K) (a := R) (xs := as.map V.ref) (fun i σ H' => ∃ (o : Option V) (L : Addr), σ = [some (.ref R), some (.ref fa), some (.ref L), o, none] ∧ H' L = some (.lst ((cdsOf fs (rs.take i)).map V.str)) ∧ Same H H')
      ⟨none, F0, rfl, upd_same, sn nF⟩ (fun i σ H' _ h => by obtain ⟨_, _, _, _, h⟩ := h; exact SqL.of (h _ _ hR)) ?_ ?_⟩⟩
    · rintro i y σ H1 hi ⟨o, L, rfl, hL, s1⟩
      rw [List.getElem?_map] at hi
      obtain ⟨c, hc, rfl⟩ := Option.map_eq_some_iff.mp hi
      obtain ⟨r, hr1, hr2⟩ := has.at hc
      have lr1 := lr r (List.mem_of_getElem? hr1)
      refine ⟨_, rfl, _, rfl, c, rfl, ⟨_, SqL.of (s1 _ _ hr2)⟩, fun D3 hD3 => lc_list (K := K) (a := c) (xs := r.map V.str) (fun j H'' => H'' D3 = some (.lst (((r.take j).filter fun y => decide (y ∈ fs)).map V.str)) ∧ Same H1 H'') ⟨upd_same, sn hD3⟩ (fun j H'' _ h => SqL.of (h.2 _ _ (s1 _ _ hr2))) ?_ ?_⟩
      · rintro j y H'' hj ⟨q3, q4⟩
        rw [List.getElem?_map] at hj
        obtain ⟨u, hu1, rfl⟩ := Option.map_eq_some_iff.mp hj
        refine ⟨rfl, _, rfl, _, rfl, fa, fs.map V.str, rfl, .inl (SqL.of ((s1.trans q4) _ _ hf)), rfl, flat_strs, ?_⟩
        refine ⟨decide (u ∈ fs), by rw [if_neg Bool.false_ne_true, inV_str], ?_⟩
        have tk : (r.take (j + 1)).filter (fun y => decide (y ∈ fs)) = (r.take j).filter (fun y => decide (y ∈ fs)) ++ [u].filter (fun y => decide (y ∈ fs)) := by
          rw [List.take_succ, hu1, List.filter_append]
          rfl
        by_cases e : u ∈ fs
        · rw [decide_eq_true e]
          refine iteT ⟨_, rfl, _, q3, small1000 ?_, ?_, fun b o eb => ?_⟩
          · rw [List.length_map]
            have := List.length_filter_le (fun y => decide (y ∈ fs)) (r.take j)
            have := List.length_take_le' j r
            omega
          · rw [upd_same, tk, List.filter_cons_of_pos (by simp [e]), List.filter_nil, List.map_append]
            rfl
          · rw [upd_ne (ne_of_none eb hD3)]
            exact q4 _ _ eb
        · rw [decide_eq_false e]
          rw [List.filter_cons_of_neg (by simp [e]), List.filter_nil, List.append_nil] at tk
          exact iteF ⟨by rw [tk]; exact q3, q4⟩
      · rintro H2 ⟨q3, q4⟩
        rw [List.length_map, List.take_length] at q3
        refine ⟨_, rfl, D3, _, rfl, SqL.of q3, fun S nS => ?_⟩
        have ec : cutV ((r.filter fun y => decide (y ∈ fs)).map V.str) none (some (1 : Int)) = (fst? fs r).toList.map V.str := by
          refine (cut_any (m := 1)).trans ?_
          rw [← List.map_take, filter_first]
        rw [ec]
        have s2 := sn nS (o := .lst ((fst? fs r).toList.map V.str))
        refine ⟨L, S, _, _, rfl, rfl, s2 _ _ (q4 _ _ hL), upd_same, ?_, fun C2 nC => ?_⟩
        · have l1 : (fst? fs r).toList.length ≤ 1 := by
            cases fst? fs r with
            | none => exact Nat.zero_le _
            | some _ => exact Nat.le_refl _
          have := cds_len (fs := fs) (rs := rs.take i)
          have := List.length_take_le' i rs
          rw [List.length_map, List.length_map]
          exact Nat.le_of_lt (small1000 (by omega))
        · refine ⟨_, _, rfl, ?_, s1.trans (q4.trans (s2.trans (sn nC)))⟩
          rw [upd_same, cds_succ hr1, List.map_append]
    · rintro σ H1 ⟨o, L, rfl, hL, s1⟩
      rw [List.length_map, has.len, List.take_length] at hL
      have lc := cds_len (fs := fs) (rs := rs)
      refine ⟨_, rfl, L, cdsOf fs rs, rfl, SqL.of hL, by omega, fun ys p so nd mem le np => ?_⟩
      exact k ys p _ (s1.trans (sn np)) (s1.free np) upd_same so nd mem (by omega)
abbrev sFlds : Stmt := top 49
abbrev nFlds : List Str := ["_law_names_here", "_law_found", "_law_name", "_law_some"]
theorem scFlds : FnScope nFlds ["_law_names_here"] (defScope sFlds) := ⟨rfl, rfl, rfl, by decide +kernel, rfl, by decide +kernel, by decide +kernel⟩
theorem ok_flds {f : Addr} {fd : FuncData} (F : FnP K "_law_fields" sFlds f fd) : FnOk P w K mg base CX0 1 f fd ["_law_names_here"] (spFlds K) := by
  refine okN F scFlds (fun vs H Q E h => ?_) (fun cdv A outer s H vs Q E hr h => ?_)
  · obtain ⟨_, _, rfl, _⟩ := h
    rfl
  · obtain ⟨n, xs, rfl, hn, lx, k⟩ := h
    refine ⟨_, pss_cons (ps_set (i := 1) scFlds.nd rfl (Or.inl rfl) (pe_lst (pa_cons (pe_lst pa_nil) pa_nil)))
      (pss_cons (ps_for PassesOwn.never rfl (pi_list (pv 0)) (pg_name (i := 2) scFlds.nd rfl (Or.inr rfl))
        (pss_one (ps_set (i := 1) scFlds.nd rfl (Or.inl rfl) (pe_op op_cat (pv 1)
          (pe_lc (own := [("_law_some", 3)]) (g := gName 3) (tt := tYes) (te := tOp rCat (tVar 3) (tLst (tCons (tVar 2) tNil))) rfl scFlds.nd (pi_list (pv 1))
            (blkOk_by (N := nFlds) (sc := defScope sFlds) (by decide +kernel)) (fun _ _ _ _ _ => pg_name (i := 3) scFlds.nd rfl (Or.inl rfl)) (fun _ _ _ _ _ => pts_nil) (fun _ _ _ _ _ => pe_op op_cat (pv 3) (pe_lst (pa_cons (pv 2) pa_nil))))))))
      (pss_one (ps_ret (pe_slice sl_list (pv 1) (po_some pe_int) po_none)))), ?_⟩
    refine ⟨Nat.zero_le _, fun E0 nE => ⟨(show 1 ≤ sizeLine by decide), fun F0 nF => ?_⟩⟩
    have s0 := (sn nE (o := .lst [])).trans (sn nF (o := .lst [.ref E0]))
    have hE : upd (upd H E0 (.lst [])) F0 (.lst [.ref E0]) E0 = some (.lst ([].map V.str)) := by
      rw [upd_ne (Ne.symm (ne_of_none upd_same nF).symm)]
      exact upd_same
    have hF : upd (upd H E0 (.lst [])) F0 (.lst [.ref E0]) F0 = some (.lst ([E0].map V.ref)) := upd_same
    generalize upd (upd H E0 (.lst [])) F0 (.lst [.ref E0]) = H1 at s0 hE hF ⊢
    refine ⟨_, rfl, n, rfl, ⟨_, SqL.of (s0 _ _ hn)⟩, for_list (K := K) (a := n) (xs := xs.map V.str) (fun i σ H' => ∃ (o : Option V) (L : Addr) (ls : List Addr), σ = [some (.ref n), some (.ref L), o, none] ∧ H' L = some (.lst (ls.map V.ref)) ∧ RowsAt H' ls (subs (xs.take i)) ∧ H L = none ∧ Same H H')
      ⟨none, F0, [E0], rfl, hF, .cons hE .nil, ?_, s0⟩ (fun i σ H' _ h => by obtain ⟨_, _, _, _, _, _, _, h⟩ := h; exact SqL.of (h _ _ hn)) ?_ ?_⟩
    · exact (sn nE (o := .lst [])).free nF
    · rintro i y σ H2 hi ⟨o, L, ls, rfl, hL, hls, nL, s2⟩
      rw [List.getElem?_map] at hi
      obtain ⟨z, hz1, rfl⟩ := Option.map_eq_some_iff.mp hi
      have ll : (subs (xs.take i)).length ≤ 512 := subs_le9 (by have := (List.getElem?_eq_some_iff.mp hz1).1; rw [List.length_take]; omega)
      refine ⟨_, rfl, _, rfl, L, rfl, ⟨_, SqL.of hL⟩, fun D3 hD3 => lc_list (K := K) (a := L) (xs := ls.map V.ref) (fun j H' => ∃ ms : List Addr, H' D3 = some (.lst (ms.map V.ref)) ∧ RowsAt H' ms (((subs (xs.take i)).take j).map (· ++ [z])) ∧ (∀ m ∈ ms, m ≠ D3) ∧ Same H2 H')
        ⟨[], upd_same, .nil, (fun m hm => nomatch hm), sn hD3⟩ (fun j H' _ h => by obtain ⟨_, _, _, _, h⟩ := h; exact SqL.of (h _ _ hL)) ?_ ?_⟩
      · rintro j y H' hj ⟨ms, q1, q2, q3, q4⟩
        rw [List.getElem?_map] at hj
        obtain ⟨c, hc, rfl⟩ := Option.map_eq_some_iff.mp hj
        obtain ⟨r, hr1, hr2⟩ := hls.at hc
        have lr : r.length ≤ 10 := by
          have q := subs_subl (xs.take i) [] [[]] (fun fs hf => by rw [List.mem_singleton.mp hf]; exact .refl _) r (List.mem_of_getElem? hr1)
          have := q.length_le
          have := List.length_take_le' i xs
          simp only [List.nil_append] at *
          omega
        refine ⟨rfl, _, rfl, _, rfl, (show 1 ≤ sizeLine by decide), fun T nT => ?_⟩
        have s5 := sn nT (o := .lst [.str z])
        refine ⟨c, T, _, _, rfl, rfl, s5 _ _ (q4 _ _ hr2), upd_same, ?_, fun G nG => ?_⟩
        · rw [List.length_map]
          exact Nat.le_of_lt (small1000 (by simp only [List.length_cons, List.length_nil]; omega))
        have ez : r.map V.str ++ [V.str z] = (r ++ [z]).map V.str := by rw [List.map_append]; rfl
        rw [ez]
        have s6 := s5.trans (sn nG (o := .lst ((r ++ [z]).map V.str)))
        have hG : upd (upd H' T (.lst [.str z])) G (.lst ((r ++ [z]).map V.str)) G = some (.lst ((r ++ [z]).map V.str)) := upd_same
        have nG2 := s5.free nG
        generalize upd (upd H' T (.lst [.str z])) G (.lst ((r ++ [z]).map V.str)) = H6 at s6 hG ⊢
        have nGD : G ≠ D3 := Ne.symm (ne_of_none q1 nG2)
        have tk2 : (((subs (xs.take i)).take (j + 1)).map (· ++ [z])) = (((subs (xs.take i)).take j).map (· ++ [z])) ++ [r ++ [z]] := by rw [List.take_succ, hr1, List.map_append]; rfl
        refine ⟨_, s6 _ _ q1, small1000 ?_, ms ++ [G], by rw [upd_same, List.map_append]; rfl, ?_, fun m hm => ?_, fun b o e => ?_⟩
        · rw [List.length_map, q2.len, List.length_map]
          have := List.length_take_le' j (subs (xs.take i))
          omega
        · rw [tk2]
          exact RowsAt.snoc ((q2.same s6).keep fun x hx o e => by rw [upd_ne (q3 x hx)]; exact e) (by rw [upd_ne nGD]; exact hG)
        · rcases List.mem_append.mp hm with h | h
          · exact q3 m h
          · rw [List.mem_singleton.mp h]
            exact nGD
        · rw [upd_ne (ne_of_none e hD3)]
          exact s6 _ _ (q4 _ _ e)
      · rintro H3 ⟨ms, q1, q2, q3, q4⟩
        rw [List.length_map, hls.len, List.take_length] at q2
        refine ⟨L, D3, _, _, rfl, rfl, q4 _ _ hL, q1, ?_, fun G nG => ?_⟩
        · rw [List.length_map, List.length_map, hls.len, q2.len, List.length_map, sizeLine_eq]
          omega
        rw [← List.map_append]
        refine ⟨_, G, ls ++ ms, rfl, upd_same, ?_, s2.free (q4.free nG), s2.trans (q4.trans (sn nG))⟩
        have e : subs (xs.take (i + 1)) = subs (xs.take i) ++ (subs (xs.take i)).map (· ++ [z]) := by
          unfold subs
          rw [List.take_succ, hz1, List.foldl_append]
          rfl
        rw [e]
        exact ((hls.same q4).same (sn nG)).app (q2.same (sn nG))
    · rintro σ H2 ⟨o, L, ls, rfl, hL, hls, nL, s2⟩
      rw [List.length_map, List.take_length] at hls
      have l1 : 1 ≤ ls.length := by
        rw [hls.len]
        obtain ⟨t, e, _⟩ := subs_head xs [] (fun fs hf => nomatch hf)
        unfold subs
        rw [e]
        exact Nat.le_add_left _ _
      refine ⟨_, rfl, _, rfl, L, _, rfl, SqL.of hL, fun D nD => ?_⟩
      rw [cutV_from (by rw [List.length_map]; exact l1), ← List.map_drop]
      exact k D (ls.drop 1) _ (s2.trans (sn nD)) (s2.free nD) upd_same ((hls.dr 1).same (sn nD))
end
end K24

set_option maxHeartbeats 8000000
namespace K24
open PySem PySem.Spec PyProof.Rows L2 G1
/-! ### fields and masks: the pure part -/
theorem subs_in : ∀ {xs fs : List Str} {g : List Str} {acc : List (List Str)}, g ∈ acc → fs.Sublist xs → g ++ fs ∈ xs.foldl subsS acc
  | [], fs, g, acc, h, s => by
    rw [List.sublist_nil.mp s, List.append_nil]
    exact h
  | x :: xs, fs, g, acc, h, s => by
    show g ++ fs ∈ xs.foldl subsS (subsS acc x)
    cases s with
    | cons _ s => exact subs_in (List.mem_append.mpr (.inl h)) s
    | @cons_cons fs _ _ s =>
      have q := subs_in (xs := xs) (fs := fs) (g := g ++ [x]) (acc := subsS acc x) (List.mem_append.mpr (.inr (List.mem_map.mpr ⟨g, h, rfl⟩))) s
      rw [List.append_assoc] at q
      exact q
theorem subs_mem {xs fs : List Str} (s : fs.Sublist xs) (l : 1 ≤ fs.length) : fs ∈ (subs xs).drop 1 := by
  obtain ⟨t, e, _⟩ := subs_head xs [] (fun fs hf => nomatch hf)
  have q := subs_in (g := []) (acc := [[]]) (List.mem_singleton.mpr rfl) s
  rw [List.nil_append] at q
  unfold subs
  rw [e] at q ⊢
  rcases List.mem_cons.mp q with h | h
  · rw [h] at l
    simp at l
  · exact h
theorem cds_mem {fs : List Str} {rs : List (List Str)} {z : Str} : z ∈ cdsOf fs rs ↔ ∃ r ∈ rs, fst? fs r = some z := by
  unfold cdsOf
  rw [List.mem_filterMap]
/-- z is the first one of the field in r -/
theorem fst_iff {fs : List Str} {z : Str} : ∀ {r : List Str}, z ∈ r → z ∈ fs → (fst? fs r = some z ↔ ∀ y ∈ r.take (r.idxOf z), y ∉ fs)
  | [], h, _ => by cases h
  | x :: r, h, hf => by
    unfold fst?
    by_cases e : x = z
    · subst e
      rw [List.find?_cons_of_pos (by simpa using hf), List.idxOf_cons_self]
      simp
    · have hr : z ∈ r := (List.mem_cons.mp h).resolve_left fun q => e q.symm
      have ei : (x :: r).idxOf z = r.idxOf z + 1 := by
        rw [List.idxOf_cons]
        have : (x == z) = false := by simpa using e
        rw [this]
        rfl
      rw [ei, List.take_succ_cons]
      by_cases hx : x ∈ fs
      · rw [List.find?_cons_of_pos (by simpa using hx)]
        constructor
        · intro q
          exact absurd (Option.some.inj q) e
        · intro q
          exact absurd hx (q x List.mem_cons_self)
      · rw [List.find?_cons_of_neg (by simpa using hx)]
        have ih := fst_iff (fs := fs) hr hf
        unfold fst? at ih
        rw [ih]
        constructor
        · intro q y hy
          rcases List.mem_cons.mp hy with rfl | hy
          · exact hx
          · exact q y hy
        · exact fun q y hy => q y (List.mem_cons_of_mem _ hy)
theorem take_self {r : List Str} {z : Str} : z ∉ r.take (r.idxOf z) := fun h => by
  obtain ⟨i, hi, e⟩ := List.mem_iff_getElem.mp h
  rw [List.length_take] at hi
  rw [List.getElem_take] at e
  have := List.not_of_lt_findIdx (p := (· == z)) (xs := r) (i := i) (by show i < r.idxOf z; omega)
  rw [e] at this
  simp at this
section
variable {xs : List Str} {rs ts : List (List Str)} {z : Str}
theorem ok_iff (pt : ∀ t ∈ ts, t.Perm xs) {r : List Str} : okB xs ts r z = true ↔ ∃ t ∈ ts, ∀ y ∈ t.take (t.idxOf z), y ∈ r.take (r.idxOf z) := by
  unfold okB
  rw [List.any_eq_true]
  constructor
  · rintro ⟨t, ht, e⟩
    rw [inB_names fun y hy => (pt t ht).mem_iff.mp hy] at e
    exact ⟨t, ht, fun y hy => of_decide_eq_true (List.all_eq_true.mp e y hy)⟩
  · rintro ⟨t, ht, e⟩
    refine ⟨t, ht, ?_⟩
    rw [inB_names fun y hy => (pt t ht).mem_iff.mp hy]
    exact List.all_eq_true.mpr fun y hy => decide_eq_true (e y hy)
/-- a field that parts a row from the others, of the entries that are not ahead of z -/
theorem field_parts (pr : ∀ r ∈ rs, r.Perm xs) (pt : ∀ t ∈ ts, t.Perm xs) {r : List Str} (hr : r ∈ rs) (hz : z ∈ xs) (no : okB xs ts r z = false) {fs : List Str} (ef : ∀ y, y ∈ fs ↔ y ∈ xs ∧ y ∉ r.take (r.idxOf z)) : z ∈ cdsOf fs rs ∧ z ∉ cdsOf fs ts := by
  have zf : z ∈ fs := (ef z).mpr ⟨hz, take_self⟩
  refine ⟨cds_mem.mpr ⟨r, hr, (fst_iff ((pr r hr).mem_iff.mpr hz) zf).mpr fun y hy q => ((ef y).mp q).2 hy⟩, fun h => ?_⟩
  obtain ⟨t, ht, e⟩ := cds_mem.mp h
  have q := (fst_iff ((pt t ht).mem_iff.mpr hz) zf).mp e
  have : okB xs ts r z = true := (ok_iff pt).mpr ⟨t, ht, fun y hy => by
    by_cases h : y ∈ r.take (r.idxOf z)
    · exact h
    · exact absurd ((ef y).mpr ⟨(pt t ht).mem_iff.mp (List.mem_of_mem_take hy), h⟩) (q y hy)⟩
  rw [no] at this
  cases this
theorem bey_mem : z ∈ beyondL xs rs ts ↔ z ∈ xs ∧ ∃ r ∈ rs, okB xs ts r z = false := by
  unfold beyondL
  rw [List.mem_filter]
  refine and_congr Iff.rfl ?_
  rw [Bool.not_eq_true', List.all_eq_false]
  simp only [Bool.not_eq_true]
/-- who is named on some field by these rows and not by those -/
theorem bey_iff (pr : ∀ r ∈ rs, r.Perm xs) (pt : ∀ t ∈ ts, t.Perm xs) : (∃ fs ∈ (subs xs).drop 1, z ∈ cdsOf fs rs ∧ z ∉ cdsOf fs ts) ↔ z ∈ beyondL xs rs ts := by
  rw [bey_mem]
  constructor
  · rintro ⟨fs, hf, h1, h2⟩
    obtain ⟨r, hr, e⟩ := cds_mem.mp h1
    obtain ⟨zr, zf⟩ := fst_mem e
    have hz : z ∈ xs := (pr r hr).mem_iff.mp zr
    refine ⟨hz, r, hr, ?_⟩
    cases q : okB xs ts r z with
    | false => rfl
    | true =>
      obtain ⟨t, ht, sub⟩ := (ok_iff pt).mp q
      refine absurd (cds_mem.mpr ⟨t, ht, (fst_iff ((pt t ht).mem_iff.mpr hz) zf).mpr fun y hy => ?_⟩) h2
      exact (fst_iff zr zf).mp e y (sub y hy)
  · rintro ⟨hz, r, hr, no⟩
    refine ⟨xs.filter fun y => decide (y ∉ r.take (r.idxOf z)), subs_mem List.filter_sublist (List.length_pos_of_mem (List.mem_filter.mpr ⟨hz, decide_eq_true take_self⟩)), ?_⟩
    exact field_parts pr pt hr hz no fun y => by rw [List.mem_filter, decide_eq_true_iff]
/-- nothing is beyond just where every row lets everyone -/
theorem bey_nil (pr : ∀ r ∈ rs, r.Perm xs) : beyondL xs rs ts = [] ↔ withinB xs rs ts = true := by
  unfold withinB
  rw [List.all_eq_true]
  constructor
  · intro h r hr
    refine List.all_eq_true.mpr fun z hz => ?_
    cases q : okB xs ts r z with
    | true => rfl
    | false =>
      have : z ∈ beyondL xs rs ts := bey_mem.mpr ⟨(pr r hr).mem_iff.mp hz, r, hr, q⟩
      rw [h] at this
      cases this
  · intro h
    refine List.eq_nil_iff_forall_not_mem.mpr fun z hz => ?_
    obtain ⟨zx, r, hr, no⟩ := bey_mem.mp hz
    have := List.all_eq_true.mp (h r hr) z ((pr r hr).mem_iff.mpr zx)
    rw [no] at this
    cases this
theorem alike_iff (pr : ∀ r ∈ rs, r.Perm xs) (pt : ∀ t ∈ ts, t.Perm xs) : alikeB xs rs ts = (decide (beyondL xs rs ts = []) && decide (beyondL xs ts rs = [])) := by
  refine Bool.eq_iff_iff.mpr ?_
  rw [Bool.and_eq_true, decide_eq_true_iff, decide_eq_true_iff]
  unfold alikeB
  rw [List.all_eq_true]
  constructor
  · intro h
    constructor
    · refine List.eq_nil_iff_forall_not_mem.mpr fun z hz => ?_
      obtain ⟨zx, r, hr, no⟩ := bey_mem.mp hz
      have := List.all_eq_true.mp (Bool.and_eq_true_iff.mp (h z zx)).1 r hr
      rw [no] at this
      cases this
    · refine List.eq_nil_iff_forall_not_mem.mpr fun z hz => ?_
      obtain ⟨zx, r, hr, no⟩ := bey_mem.mp hz
      have := List.all_eq_true.mp (Bool.and_eq_true_iff.mp (h z zx)).2 r hr
      rw [no] at this
      cases this
  · rintro ⟨h1, h2⟩ z hz
    refine Bool.and_eq_true_iff.mpr ⟨List.all_eq_true.mpr fun r hr => ?_, List.all_eq_true.mpr fun r hr => ?_⟩
    · cases q : okB xs ts r z with
      | true => rfl
      | false =>
        have : z ∈ beyondL xs rs ts := bey_mem.mpr ⟨hz, r, hr, q⟩
        rw [h1] at this
        cases this
    · cases q : okB xs rs r z with
      | true => rfl
      | false =>
        have : z ∈ beyondL xs ts rs := bey_mem.mpr ⟨hz, r, hr, q⟩
        rw [h2] at this
        cases this
end
end K24

set_option maxHeartbeats 8000000
namespace K24
open PySem PySem.Spec PyProof.Rows L2 G1
/-- the first place where a row is not let -/
def FirstBad (xs : List Str) (rs ts : List (List Str)) (i j : Nat) (r : List Str) (z : Str) : Prop := rs[i]? = some r ∧ r[j]? = some z ∧ okB xs ts r z = false ∧ (∀ y ∈ r.take j, okB xs ts r y = true) ∧ ∀ q ∈ rs.take i, ∀ y ∈ q, okB xs ts q y = true
theorem take_at {α : Type} {l : List α} {i k : Nat} {x : α} (h : l[i]? = some x) (lt : i < k) : x ∈ l.take k := by
  obtain ⟨hi, e⟩ := List.getElem?_eq_some_iff.mp h
  exact List.mem_iff_getElem.mpr ⟨i, by rw [List.length_take]; omega, by rw [List.getElem_take]; exact e⟩
theorem first_uniq {xs : List Str} {rs ts : List (List Str)} {i j i2 j2 : Nat} {r r2 : List Str} {z z2 : Str} (h : FirstBad xs rs ts i j r z) (g : FirstBad xs rs ts i2 j2 r2 z2) : i = i2 ∧ z = z2 ∧ r = r2 := by
  obtain ⟨h1, h2, h3, h4, h5⟩ := h
  obtain ⟨g1, g2, g3, g4, g5⟩ := g
  rcases Nat.lt_trichotomy i i2 with lt | rfl | lt
  · have := g5 r (take_at h1 lt) z (List.mem_of_getElem? h2)
    rw [h3] at this
    cases this
  · rw [h1] at g1
    obtain rfl := Option.some.inj g1
    rcases Nat.lt_trichotomy j j2 with lt | rfl | lt
    · have := g4 z (take_at h2 lt)
      rw [h3] at this
      cases this
    · rw [h2] at g2
      exact ⟨rfl, Option.some.inj g2, rfl⟩
    · have := h4 z2 (take_at g2 lt)
      rw [g3] at this
      cases this
  · have := h5 r2 (take_at g1 lt) z2 (List.mem_of_getElem? g2)
    rw [g3] at this
    cases this
theorem first_not {xs : List Str} {rs ts : List (List Str)} {i j : Nat} {r : List Str} {z : Str} (h : FirstBad xs rs ts i j r z) : withinB xs rs ts = false := by
  cases q : withinB xs rs ts with
  | false => rfl
  | true =>
    have := List.all_eq_true.mp (List.all_eq_true.mp q r (List.mem_of_getElem? h.1)) z (List.mem_of_getElem? h.2.1)
    rw [h.2.2.1] at this
    cases this
/-- the field that parts rs from ts -/
def Part1 (xs : List Str) (rs ts : List (List Str)) (us : List Str) : Prop := ∃ (i j : Nat) (r : List Str) (z : Str) (lots : List (List Str)), FirstBad xs rs ts i j r z ∧ LotsOf xs ts z lots ∧ us.Perm (fbL (r.take (r.idxOf z)) z lots) ∧ sortedS us = true
def PartOf (xs : List Str) (rs ts : List (List Str)) (us : List Str) : Prop := Part1 xs rs ts us ∨ (withinB xs rs ts = true ∧ Part1 xs ts rs us)
theorem part1_uniq {xs : List Str} {rs ts : List (List Str)} {us vs : List Str} (h : Part1 xs rs ts us) (g : Part1 xs rs ts vs) : us = vs := by
  obtain ⟨i, j, r, z, lots, h1, h2, h3, h4⟩ := h
  obtain ⟨i2, j2, r2, z2, lots2, g1, g2, g3, g4⟩ := g
  obtain ⟨_, rfl, rfl⟩ := first_uniq h1 g1
  obtain rfl := lots_uniq h2 g2
  exact sorted_uniq h4 g4 (h3.trans g3.symm)
theorem part1_not {xs : List Str} {rs ts : List (List Str)} {us : List Str} (h : Part1 xs rs ts us) : withinB xs rs ts = false := by
  obtain ⟨i, j, r, z, lots, h1, _⟩ := h
  exact first_not h1
theorem part_uniq {xs : List Str} {rs ts : List (List Str)} {us vs : List Str} (h : PartOf xs rs ts us) (g : PartOf xs rs ts vs) : us = vs := by
  rcases h with h | ⟨w, h⟩ <;> rcases g with g | ⟨w2, g⟩
  · exact part1_uniq h g
  · rw [part1_not h] at w2
    cases w2
  · rw [part1_not g] at w
    cases w
  · exact part1_uniq h g
def spPF (C : Addr) : Sp := fun vs H Q _ => ∃ (a b : Addr) (xs : List Str) (rs ts : List (List Str)), vs = [.ref a, .ref b] ∧ PanF H C a xs rs ∧ PanF H C b xs ts ∧ Rw xs rs ∧ Rw xs ts ∧
  (∀ H', Same H H' → withinB xs rs ts = true → withinB xs ts rs = true → Q .non H') ∧ ∀ (D : Addr) (us : List Str) (H' : Hp), Same H H' → H D = none → PartOf xs rs ts us → H' D = some (.lst (us.map V.str)) → Q (.ref D) H'
section
variable {P : Program} {w : World} {K : PySem.W.Frag} {mg : Str → Option Value} {base : Heap} {C : Addr}
end
end K24

set_option maxHeartbeats 8000000
namespace K24
open PySem PySem.Spec PyProof.Rows L2 G1
/-! a lot as a mask, and as it is looked at -/
theorem msk_add {p q : Str → Bool} : ∀ {xs : List Str}, (∀ y ∈ xs, ¬ (p y = true ∧ q y = true)) → msk p xs + msk q xs = msk (fun y => p y || q y) xs
  | [], _ => rfl
  | x :: xs, h => by
    have ih := msk_add (xs := xs) fun y hy => h y (.tail _ hy)
    have hx := h x (.head _)
    show ((if p x then 1 else 0) + 2 * msk p xs) + ((if q x then 1 else 0) + 2 * msk q xs) = (if (p x || q x) then 1 else 0) + 2 * msk (fun y => p y || q y) xs
    rw [← ih]
    cases e1 : p x <;> cases e2 : q x
    · simp; omega
    · simp; omega
    · simp; omega
    · exact absurd ⟨e1, e2⟩ hx
theorem mask_sum {xs : List Str} (nx : xs.Nodup) : ∀ {fs : List Str}, fs.Nodup → (∀ z ∈ fs, z ∈ xs) → (fs.map fun z => ((2 ^ xs.idxOf z : Nat) : Int)).sum = ((msk (fun y => decide (y ∈ fs)) xs : Nat) : Int)
  | [], _, _ => by
    rw [show (fun y => decide (y ∈ ([] : List Str))) = fun _ => false from funext fun y => decide_eq_false (fun h => nomatch h), msk_false]
    rfl
  | z :: fs, nd, sub => by
    obtain ⟨n1, n2⟩ := List.nodup_cons.mp nd
    rw [List.map_cons, List.sum_cons, mask_sum nx n2 fun y hy => sub y (.tail _ hy), bit_msk nx (sub z (.head _))]
    rw [← Int.natCast_add, msk_add (p := fun y => y == z) (q := fun y => decide (y ∈ fs)) fun y _ h => n1 ((beq_iff_eq.mp h.1) ▸ of_decide_eq_true h.2)]
    congr 2
    funext y
    by_cases e : y = z
    · subst e
      simp
    · simp [e]
def spMaskOf : Sp := fun vs H Q _ => ∃ (b l : Addr) (xs fs : List Str), vs = [.ref b, .ref l] ∧ H b = some (.dK (dN xs (bitV xs))) ∧ H l = some (.lst (fs.map V.str)) ∧ xs.Nodup ∧ fs.Nodup ∧ (∀ z ∈ fs, z ∈ xs) ∧ fs.length ≤ 40 ∧
  ∀ H', Same H H' → Q (.int ((msk (fun y => decide (y ∈ fs)) xs : Nat) : Int)) H'
def spChkL (K : PySem.W.Frag) : Sp := fun vs H Q _ => ∃ (n v : Addr) (xs zs : List Str), vs = [.ref n, .ref v] ∧ SqL K H n (xs.map V.str) ∧ H v = some (.lst (zs.map V.str)) ∧ zs.length ≤ 1000 ∧ lotB xs zs = true ∧ ∀ H', Same H H' → Q .non H'
def spChkPL (C : Addr) : Sp := fun vs H Q _ => ∃ (a v : Addr) (xs zs : List Str) (rs : List (List Str)), vs = [.ref a, .ref v] ∧ PanF H C a xs rs ∧ H v = some (.lst (zs.map V.str)) ∧ zs.length ≤ 1000 ∧ lotB xs zs = true ∧ ∀ H', Same H H' → Q .non H'
section
variable {P : Program} {w : World} {K : PySem.W.Frag} {mg : Str → Option Value} {base : Heap} {C : Addr}
end
end K24

set_option maxHeartbeats 4000000
/-! all(xs) of a list of ints. -/
namespace G1
open PySem PySem.Spec PyProof.Rows L2 PySem.W
def rAllI (K : PySem.W.Frag) : List V → Hp → VK → Prop := fun vs H Q => ∃ (a : Addr) (ns : List Int), vs = [V.ref a] ∧ SqL K H a (ns.map V.int) ∧ Q (.bl (ns.all fun n => n != 0)) H
theorem truth_ints {prog : Program} {w : World} {A : Around} {ns : List Int} {its : List Value} (rv : Vals (ns.map V.int) its) :
    TruthOf prog w A (fun i v => its.toArray[i]? = some v) (fun i => (ns.map fun n => n != 0).getD i false) := fun i v s Q E hv hq => by
  have hv' : its[i]? = some v := by simpa using hv
  obtain ⟨x, hx, rx⟩ := vals_at rv hv'
  rw [List.getElem?_map] at hx
  obtain ⟨n, hn, rfl⟩ := Option.map_eq_some_iff.mp hx
  obtain ⟨t, rfl⟩ : ∃ t, v = Value.int n t := rx
  have hg : (ns.map fun n => n != 0).getD i false = (n != 0) := by rw [List.getD_eq_getElem?_getD, List.getElem?_map, hn] <;> rfl
  have hq' : Q ((ns.map fun n => n != 0).getD i false) s := hq
  rw [hg] at hq'
  exact truthy_int hq'
section
variable {X : Cx}
theorem cr_allI (hc : X.calm = true) : CallR X (.builtin "all") (rAllI X.K) := by
  intro pins s σ H vs us Q I r h
  obtain ⟨a, ns, rfl, hs, q⟩ := h
  obtain ⟨its, rv, hl, _⟩ := I.list hs
  rw [Vals.ref1 r]
  refine call_all_walk (iter_any hl.isList fun s₂ e2 st hne => ?_)
  subst e2
  refine ⟨_, _, _, _, _, _, _, rfl, Walks.list (A := X.A.in1) (I.ok.hd hc) _ a hne its.toArray, st, truth_ints rv, fun h' tk hk => ?_⟩
  refine ⟨.bl _, H, I.kept fun b o eo => hk b o (fun hmem => ?_) (Heap.get?_push_of_some _ eo), ?_, q⟩
  · rcases List.mem_cons.mp hmem with e1 | hmem
    · exact absurd (e1 ▸ Heap.lt_size eo) (Nat.lt_irrefl _)
    · cases hmem
  · show Value.bool _ = Value.bool _
    have e : (ns.all fun n => n != 0) = (ns.map fun n => n != 0).all id := by
      rw [List.all_map]
      rfl
    have l := rv.length
    rw [List.length_map] at l
    rw [e, ← L2.all_range, List.size_toArray, List.length_map, l]
end
end G1

set_option maxHeartbeats 8000000
namespace K24
open PySem PySem.Spec PyProof.Rows L2 G1
/-- every row has one of the lot ahead of it -/
def offB (rs : List (List Str)) (fs : List Str) (z : Str) : Bool := rs.all fun r => (r.take (r.idxOf z)).any fun y => decide (y ∈ fs)
def hullL (xs : List Str) (rs : List (List Str)) (fs : List Str) : List Str := xs.filter fun z => decide (z ∈ fs) || offB rs fs z
theorem ahead_meets {xs r fs : List Str} {z : Str} (sub : ∀ y ∈ r, y ∈ xs) : (aheadM xs r z &&& msk (fun y => decide (y ∈ fs)) xs != 0) = (r.take (r.idxOf z)).any fun y => decide (y ∈ fs) := by
  unfold aheadM
  rw [msk_and]
  cases e : (r.take (r.idxOf z)).any fun y => decide (y ∈ fs) with
  | false =>
    rw [bne_eq_false_iff_eq, msk_zero]
    intro y _
    cases e1 : decide (y ∈ r.take (r.idxOf z)) with
    | false => rfl
    | true =>
      have := List.any_eq_false.mp e y (of_decide_eq_true e1)
      rw [Bool.true_and]
      cases q : decide (y ∈ fs) with
      | false => rfl
      | true => exact absurd q this
  | true =>
    rw [bne_iff_ne]
    intro h
    obtain ⟨y, hy, hf⟩ := List.any_eq_true.mp e
    have := msk_zero.mp h y (sub y (List.mem_of_mem_take hy))
    rw [decide_eq_true hy, hf] at this
    cases this
theorem meets_up {a b m : Nat} (h : inB a b = true) (q : (a &&& m != 0) = true) : (b &&& m != 0) = true := by
  rw [bne_iff_ne] at q ⊢
  intro e
  apply q
  have h2 := inB_iff.mp h
  rw [← h2, Nat.and_assoc, e, Nat.and_zero]
theorem least_meets {xs : List Str} {rs : List (List Str)} {z : Str} {zs : List Nat} (h : LeastOf xs rs z zs) (m : Nat) : (zs.all fun n => (n &&& m != 0)) = rs.all fun r => (aheadM xs r z &&& m != 0) := by
  obtain ⟨ys, _, _, mem, _, rfl⟩ := h
  have e1 : (rs.all fun r => (aheadM xs r z &&& m != 0)) = ys.all fun n => (n &&& m != 0) := by
    refine Bool.eq_iff_iff.mpr ⟨fun h => List.all_eq_true.mpr fun n hn => ?_, fun h => List.all_eq_true.mpr fun r hr => ?_⟩
    · obtain ⟨r, hr, rfl⟩ := List.mem_map.mp ((mem n).mp hn)
      exact List.all_eq_true.mp h r hr
    · exact List.all_eq_true.mp h _ ((mem _).mpr (List.mem_map.mpr ⟨r, hr, rfl⟩))
  rw [e1]
  refine Bool.eq_iff_iff.mpr ⟨fun h => List.all_eq_true.mpr fun n hn => ?_, fun h => List.all_eq_true.mpr fun n hn => ?_⟩
  · have hh : holdB n (leastM ys) = true := by
      rw [holdB_least]
      exact List.any_eq_true.mpr ⟨n, hn, inB_iff.mpr (Nat.and_self n)⟩
    obtain ⟨a, ha, hi⟩ := List.any_eq_true.mp (show ((leastM ys).any fun a => inB a n) = true from hh)
    exact meets_up hi (List.all_eq_true.mp h a ha)
  · rcases fold_sub hn with q | q
    · cases q
    · exact List.all_eq_true.mp h n q
def spKept : Sp := fun vs H Q _ => ∃ (D : Addr) (xs fs : List Str) (rs : List (List Str)), vs = [.ref D, .int ((msk (fun y => decide (y ∈ fs)) xs : Nat) : Int)] ∧ FamAt H D xs rs ∧ Rw xs rs ∧
  ∀ (L : Addr) (H' : Hp), Same H H' → H L = none → H' L = some (.lst ((xs.filter fun z => offB rs fs z).map V.str)) → Q (.ref L) H'
def spHull (C : Addr) : Sp := fun vs H Q _ => ∃ (a l : Addr) (xs fs : List Str) (rs : List (List Str)), vs = [.ref a, .ref l] ∧ PanF H C a xs rs ∧ Rw xs rs ∧ H l = some (.lst (fs.map V.str)) ∧ lotB xs fs = true ∧ fs.Nodup ∧ (∀ z ∈ fs, z ∈ xs) ∧ fs.length ≤ 40 ∧
  ∀ (L : Addr) (H' : Hp), Same H H' → H L = none → H' L = some (.lst ((hullL xs rs fs).map V.str)) → Q (.ref L) H'
section
variable {P : Program} {w : World} {K : PySem.W.Frag} {mg : Str → Option Value} {base : Heap} {C : Addr}
end
end K24

set_option maxHeartbeats 8000000
namespace K24
open PySem PySem.Spec PyProof.Rows L2 G1
theorem fn_nat (n : Nat) {m : Nat} (h4 : m ≤ 10) : FineN (.int (m : Int)) n 8 := by
  have d : ∀ i ∈ List.range 11, PyData.canLay0 (.int (i : Int)) = true ∧ PyData.depth (.int (i : Int)) = 0 ∧ PyData.weight (.int (i : Int)) ≤ 8 ∧ PyData.intsShort 13 (.int (i : Int)) = true ∧ PyData.showable (.int (i : Int)) = true ∧ PyData.hasDict (.int (i : Int)) = false := by
    decide +kernel
  obtain ⟨d1, d2, d3, d4, d5, d6⟩ := d m (List.mem_range.mpr (by omega))
  exact ⟨d1, by rw [d2]; exact Nat.zero_le _, d3, d4, d5, d6⟩
def nd' (ns : List Nat) : PyData := .list (ns.map fun (j : Nat) => PyData.int (j : Int))
theorem fine_nats {ns : List Nat} (h : ∀ j ∈ ns, j ≤ 10) (l : ns.length ≤ 10) : FineN (nd' ns) 1 90 := by
  have q : ∀ {ns : List Nat}, (∀ j ∈ ns, j ≤ 10) → FineAll (ns.map fun (j : Nat) => PyData.int (j : Int)) 0 (9 * ns.length) := fun {ns} => by
    induction ns with
    | nil => exact fun _ => .nil _ _
    | cons j ns ih =>
      intro h
      have q := FineAll.cons (fn_nat 0 (h j List.mem_cons_self)) (ih fun y hy => h y (List.mem_cons_of_mem _ hy))
      rw [List.map_cons, List.length_cons, show 9 * (ns.length + 1) = 8 + 1 + 9 * ns.length by omega]
      exact q
  exact (q h).list.mono (Nat.le_refl _) (by omega)
theorem dp_nats {K : PySem.W.Frag} {H : Hp} {a : Addr} {ns : List Nat} (h : H a = some (.lst (natsV ns))) : Dp K H (.ref a) (nd' ns) := by
  refine .lst (SqL.of h) ?_
  unfold natsV
  clear h
  induction ns with
  | nil => exact .nil
  | cons j ns ih => exact .cons (.int _) ih
theorem lot_subl {xs fs : List Str} (so : xs.Pairwise leS) (nd : xs.Nodup) (h : fs.Sublist xs) : lotB xs fs = true := by
  have lt_of : ∀ {a b : Str}, leS a b → a ≠ b → ltB a b = true := fun {a b} h n => by
    refine decide_eq_true ?_
    by_cases q : a.cps.toList < b.cps.toList
    · exact q
    · exact absurd (leS_anti h q) n
  have asc_of : ∀ {l : List Str}, l.Pairwise leS → l.Nodup → ascB l = true := fun {l} => by
    induction l with
    | nil => exact fun _ _ => rfl
    | cons x t ih =>
      cases t with
      | nil => exact fun _ _ => rfl
      | cons y t =>
        intro h n
        obtain ⟨h1, h2⟩ := List.pairwise_cons.mp h
        obtain ⟨n1, n2⟩ := List.pairwise_cons.mp n
        have ih := ih h2 n2
        unfold ascB at ih ⊢
        show (ltB x y && ((y :: t).zip ((y :: t).drop 1)).all fun p => ltB p.1 p.2) = true
        rw [lt_of (h1 y List.mem_cons_self) (n1 y List.mem_cons_self), ih]
        rfl
  unfold lotB
  rw [asc_of (so.sublist h) (nd.sublist h), Bool.and_true]
  exact List.all_eq_true.mpr fun z hz => decide_eq_true (h.subset hz)
theorem cutV_lastone {xs : List V} (h : 1 ≤ xs.length) : cutV xs (some (-1 : Int)) none = xs.drop (xs.length - 1) := by
  have e : HT.sIx xs.length 0 (some (-1 : Int)) = xs.length - 1 := by
    unfold HT.sIx
    simp
    omega
  have e2 : HT.sIx xs.length xs.length none = xs.length := rfl
  unfold cutV
  rw [e, e2]
  exact List.take_of_length_le (by rw [List.length_drop]; exact Nat.le_refl _)
theorem at_last {fs : List Str} (h : 1 ≤ fs.length) : ∃ z ∈ fs, atI (fs.map V.str) (-1) = some (V.str z) := by
  have e : fs[fs.length - 1]? = some (fs[fs.length - 1]'(by omega)) := List.getElem?_eq_getElem _
  refine ⟨_, List.mem_of_getElem? e, ?_⟩
  have e3 : ixN (fs.map V.str).length (-1) = some (fs.length - 1) := by
    unfold ixN
    rw [List.length_map, if_neg (by decide), if_pos (by omega)]
    congr 1
    omega
  show (ixN (fs.map V.str).length (-1)).bind (fun j => (fs.map V.str)[j]?) = _
  rw [e3]
  show (fs.map V.str)[fs.length - 1]? = _
  rw [List.getElem?_map, e]
  rfl
theorem fine_three {xs : List Str} {rs : List (List Str)} (gd : Good xs rs) : FineN (.list [rd xs, rsd rs, .int (rs.length : Int)]) 3 (63 + 1 + (64 * rs.length + 1 + (8 + 1 + 0))) :=
  (FineAll.cons ((fine_row gd.nm gd.l6).mono (by decide) (Nat.le_refl _)) (FineAll.cons gd.fine (FineAll.cons (fn_nat 2 gd.r8) (.nil 2 0)))).list
def spIs (K : PySem.W.Frag) (C : Addr) : Sp := fun vs H Q _ => ∃ (a n R : Addr) (as : List Addr) (xs : List Str) (rs : List (List Str)), vs = [.ref a, .ref n, .ref R] ∧ PanF H C a xs rs ∧ H n = some (.lst (xs.map V.str)) ∧ H R = some (.lst (as.map V.ref)) ∧ RowsAt H as rs ∧ Good xs rs ∧
  ∀ H', Same H H' → Q (.bl true) H'
def scIsIn : Scope := { kind := .function, names := [(Str.ofString ".0", .local), (Str.ofString "_law_row", .local), (Str.ofString "_law_field", .cell)], isGenerator := false, isCoroutine := false }
section
variable {P : Program} {w : World} {K : PySem.W.Frag} {mg : Str → Option Value} {base : Heap} {C : Addr}
end
end K24

set_option maxHeartbeats 8000000
namespace K24
open PySem PySem.Spec PyProof.Rows L2 G1
/-- rows of many names -/
def spRowsW (K : PySem.W.Frag) : Sp := fun vs H Q _ => ∃ (p n : Addr) (m : Int) (c : Nat) (xs : List Str), vs = [.ref p, .ref n, .int m] ∧ 1 ≤ m ∧ m ≤ 12 ∧ Purse H p c ∧ c ≤ 200000 ∧ SqL K H n (xs.map V.str) ∧ n ≠ p ∧ xs.Nodup ∧ 1 ≤ xs.length ∧ xs.length ≤ 48 ∧
  ∀ (D : Addr) (as : List Addr) (rs : List (List Str)) (H' : Hp), H' D = some (.lst (as.map V.ref)) → H D = none → RowsAt H' as rs → (∀ a ∈ as, H a = none ∧ a ≠ D) → (rs.length : Int) = m → (∀ r ∈ rs, r.Perm xs) → Purse H' p (c + 4000) → But p H H' → Q (.ref D) H'
section
variable {P : Program} {w : World} {K : PySem.W.Frag} {mg : Str → Option Value} {base : Heap}
theorem ok_rowsW {f fS fD : Addr} {fd fdS fdD : FuncData} (F : FnP K "_law_rows_of" sRows f fd) (L : Lib K mg)
    (FS : FnP K "_law_shuffled" sShuf fS fdS) (gS : mg "_law_shuffled" = some (.ref fS)) (GS : FnOk P w K mg base CX0 3 fS fdS ["_law_purse_here", "_law_some"] (spShuf K))
    (FD : FnP K "_law_draw" sDraw fD fdD) (gD : mg "_law_draw" = some (.ref fD)) (GD : FnOk P w K mg base CX0 2 fD fdD ["_law_purse_here", "_law_many"] spDraw) :
    FnOk P w K mg base CX0 4 f fd ["_law_purse_here", "_law_names_here", "_law_many"] (spRowsW K) := by
  have bS : Binds K fdS ["_law_purse_here", "_law_some"] [] := FS.bindsN fun _ _ _ _ _ _ us hl => match us, hl with | [_, _], _ => rfl
  have bD : Binds K fdD ["_law_purse_here", "_law_many"] [] := FD.bindsN fun _ _ _ _ _ _ us hl => match us, hl with | [_, _], _ => rfl
  refine okN F scRows (fun vs H Q E h => ?_) (fun cdv A outer s H vs Q E hr h => ?_)
  · obtain ⟨_, _, _, _, _, rfl, _⟩ := h
    rfl
  · obtain ⟨p, n, m, c, xs, rfl, m1, m4, hp, hc, hS, np, nd, x1, x6, k⟩ := h
    have hr2 : Room 2 (A.deeper (envOfC "_law_rows_of" (defScope sRows) s.heap.objs.size f cdv)) := hr.mono (by decide)
    refine ⟨_, pss_cons (ps_par (i := 3) (j := 4) (by rfl) scRows.nd rfl rfl (by decide) rfl rfl (pa_cons (pe_call GS hr rfl gS FS.kp bS .nil pass0 (pa_cons (pv 0) (pa_cons (pv 1) pa_nil))) (pa_cons (pe_lst pa_nil) pa_nil)) (by rfl))
      (pss_cons (ps_set (i := 5) scRows.nd rfl (Or.inl rfl) (pe_call GD hr2 rfl gD FD.kp bD .nil pass0 (pa_cons (pv 0) (pa_cons pe_int pa_nil))))
      (pss_cons (ps_for PassesOwn.never rfl (pi_range1 rfl L.range (pa_cons (pv 2) pa_nil)) (pg_name (i := 6) scRows.nd rfl (Or.inl rfl))
        (pss_cons (ps_set (i := 7) scRows.nd rfl (Or.inl rfl) (pe_call GS hr rfl gS FS.kp bS .nil pass0 (pa_cons (pv 0) (pa_cons (pv 1) pa_nil))))
        (pss_cons (ps_if (pt_cmpR op_gt (pv 5) pe_int (nomark _))
          (pss_cons (ps_asg (pe_tup (pa_cons (pe_call GD hr2 rfl gD FD.kp bD .nil pass0 (pa_cons (pv 0) (pa_cons (pe_callB call_len_seq (by rfl) L.len PySem.boot_len (pa_cons (pv 1) pa_nil)) pa_nil)))
              (pa_cons (pe_slice sl_list (pv 7) po_none (po_some (pe_op op_sub (pe_op op_add (pe_call GD hr2 rfl gD FD.kp bD .nil pass0 (pa_cons (pv 0) (pa_cons pe_int pa_nil))) (pv 5)) pe_int))) pa_nil)))
              (pg_tup (n := 2) (by rfl) (pgs_cons (pg_name (i := 8) scRows.nd rfl (Or.inl rfl)) (pgs_cons (pg_name (i := 9) scRows.nd rfl (Or.inr rfl)) pgs_nil))))
          (pss_cons (ps_set (i := 7) scRows.nd rfl (Or.inl rfl) (pe_op op_cat (pv 9)
            (pe_lc (own := [("_law_name", 10)]) (g := gName 10) (tt := tTest (tOp (rIn K true) (tVar 10) (tVar 9))) (te := tVar 10) rfl scRows.nd (pi_list (pv 3))
              (blkOk_by (N := nRows) (sc := defScope sRows) (by decide +kernel)) (fun _ _ _ _ _ => pg_name (i := 10) scRows.nd rfl (Or.inl rfl))
              (fun _ _ _ _ _ => pts_one (pt_cmpR op_notIn_seq (pv 10) (pv 9) (by rfl))) (fun _ _ _ _ _ => pv 10))))
          (pss_one (ps_set (i := 7) scRows.nd rfl (Or.inl rfl) (pe_ifExp (pt_cmpR op_gt (pv 8) pe_int (nomark _)) (pv 7) (pe_revL (pv 7))))))) pss_nil)
        (pss_one (ps_expr (pe_bm PySem.F.plainAttrs_list PySem.F.slot_list_append PySem.F.type_list_append mt_append (pv 4) (pa_cons (pv 7) pa_nil)))))))
      (pss_one (ps_ret (pv 4))))), ?_⟩
    refine ⟨_, rfl, _, rfl, p, n, xs.map V.str, c, rfl, hp, by omega, hS, np, (by rw [List.length_map]; omega), fun B ys H1 perm hB nB hp1 hb1 => ?_⟩
    obtain ⟨bs, rfl, pb⟩ := perm_strs perm
    rw [List.length_map] at hp1
    refine ⟨Nat.zero_le _, fun Fo nF => ⟨_, _, rfl, ?_⟩⟩
    have s2 : Same H1 (upd H1 Fo (.lst [])) := sn nF
    have fF : upd H1 Fo (.lst []) Fo = some (.lst []) := upd_same
    have nFH : H Fo = none := new_back hb1 hp1 nF
    have nBF : B ≠ Fo := ne_of_none hB nF
    generalize upd H1 Fo (.lst []) = H2 at s2 fF ⊢
    refine ⟨_, rfl, p, 3, c + 3 * xs.length, rfl, by decide, by decide, hp1.same s2, by omega, fun way H3 w0 w3 hp3 hb3 => ?_⟩
    have nFp : Fo ≠ p := ne_purse fF (fun v hv => nomatch hv) (hp1.same s2)
    have nBp : B ≠ p := ne_purse hB str_no_int hp1
    have b3 : But p H H3 := (hb1.trans (But.same s2)).trans hb3
    refine ⟨_, rfl, m, rfl, by omega, by omega, ?_⟩
    refine for_range (lo := 0) (n := m.toNat) (fun i σ H' => ∃ (o6 o7 o8 o9 : Option V) (as : List Addr) (rs : List (List Str)), σ = [some (.ref p), some (.ref n), some (.int m), some (.ref B), some (.ref Fo), some (.int way), o6, o7, o8, o9, none] ∧
        H' Fo = some (.lst (as.map V.ref)) ∧ RowsAt H' as rs ∧ (∀ a ∈ as, H a = none ∧ a ≠ Fo) ∧ rs.length = i ∧ (∀ r ∈ rs, r.Perm xs) ∧ H' B = some (.lst (bs.map V.str)) ∧ Purse H' p (c + 300 + 300 * i) ∧ But p H H')
      ⟨none, none, none, none, [], [], rfl, hb3 _ _ nFp fF, .nil, (fun a ha => nomatch ha), rfl, (fun r hr => nomatch hr), hb3 _ _ nBp (s2 _ _ hB), hp3.mono (by omega), b3⟩ ?_ ?_
    · rintro i σ H4 hi ⟨o6, o7, o8, o9, as, rs, rfl, g1, g2, g3, g4, g5, g6, g7, g8⟩
      refine ⟨_, rfl, _, rfl, p, n, xs.map V.str, _, rfl, g7, by omega, SqL.but hS g8 np, np, (by rw [List.length_map]; omega), fun R ys H5 perm5 hR nR hp5 hb5 => ?_⟩
      obtain ⟨rr, rfl, pr⟩ := perm_strs perm5
      rw [List.length_map] at hp5
      have b5 : But p H H5 := g8.trans hb5
      have nRH : H R = none := new_back g8 g7 nR
      have nRF : R ≠ Fo := Ne.symm (ne_of_none g1 nR)
      have f5 : H5 Fo = some (.lst (as.map V.ref)) := hb5 _ _ nFp g1
      have r5 : RowsAt H5 as rs := g2.but hb5 g7
      have e5 : H5 B = some (.lst (bs.map V.str)) := hb5 _ _ nBp g6
      refine ⟨_, rfl, _, _, rfl, rfl, _, rfl, ?_⟩
      refine ite2 (fun _ => ?_) (fun _ => ?_)
      · -- the head of this row, the others in the order of the base
        have nRp : R ≠ p := ne_purse hR str_no_int hp5
        refine ⟨_, rfl, _, rfl, n, xs.map V.str, rfl, .inl (SqL.but hS b5 np), ?_⟩
        refine ⟨p, _, _, rfl, (by rw [List.length_map]; omega), (by rw [List.length_map]; omega), hp5, by omega, fun cut H6 c0 c1 hp6 hb6 => ?_⟩
        refine ⟨_, rfl, _, rfl, p, 3, _, rfl, by decide, by decide, hp6, by omega, fun q H7 q0 q3 hp7 hb7 => ?_⟩
        refine ⟨_, rfl, _, _, rfl, rfl, _, _, rfl, rfl, ?_⟩
        have w1 : 0 < way := of_decide_eq_true (by assumption)
        obtain ⟨t, ht⟩ := Int.eq_ofNat_of_zero_le (show 0 ≤ q + way - 1 by omega)
        refine ⟨_, rfl, ?_⟩
        rw [ht]
        have b57 : But p H5 H7 := hb6.trans hb7
        have hR7 := b57 _ _ nRp hR
        refine ⟨R, rr.map V.str, rfl, SqL.of hR7, fun Hd nHd => ?_⟩
        rw [cut_any, ← List.map_take]
        have s8 : Same H7 (upd H7 Hd (.lst ((rr.take t).map V.str))) := sn nHd
        have f8 : upd H7 Hd (.lst ((rr.take t).map V.str)) Hd = some (.lst ((rr.take t).map V.str)) := upd_same
        generalize upd H7 Hd (.lst ((rr.take t).map V.str)) = H8 at s8 f8 ⊢
        refine ⟨(show 2 ≤ sizeLine by decide), fun T nT => ⟨T, _, rfl, SqT.of upd_same, rfl, _, _, rfl, _, _, rfl, rfl, ?_⟩⟩
        have s9 : Same H8 (upd H8 T (.tup [.int cut, .ref Hd])) := sn nT
        generalize upd H8 T (.tup [.int cut, .ref Hd]) = H9 at s9 ⊢
        have s79 := s8.trans s9
        have nFp5 : Fo ≠ p := nFp
        have e9 : H9 B = some (.lst (bs.map V.str)) := s79 _ _ (b57 _ _ nBp e5)
        have f9 : H9 Fo = some (.lst (as.map V.ref)) := s79 _ _ (b57 _ _ nFp f5)
        have r9 : RowsAt H9 as rs := (r5.but b57 hp5).same s79
        have hp9 := hp7.same s79
        have b9 : But p H H9 := (b5.trans b57).trans (But.same s79)
        have h9 : H9 Hd = some (.lst ((rr.take t).map V.str)) := s9 _ _ f8
        refine ⟨_, rfl, _, rfl, B, rfl, ⟨_, SqL.of e9⟩, fun D2 hD2 => lc_list (K := K) (a := B) (xs := bs.map V.str)
          (fun i H' => H' D2 = some (.lst (((bs.take i).filter (fun z => decide (z ∉ rr.take t))).map V.str)) ∧ Same H9 H') ⟨upd_same, sn hD2⟩ (fun i H' _ h => SqL.of (h.2 _ _ e9)) ?_ ?_⟩
        · rintro j y H10 hj ⟨q1, q2⟩
          rw [List.getElem?_map] at hj
          obtain ⟨z, hz, rfl⟩ := Option.map_eq_some_iff.mp hj
          have tk : (bs.take (j + 1)).filter (fun z => decide (z ∉ rr.take t)) = (bs.take j).filter (fun z => decide (z ∉ rr.take t)) ++ [z].filter (fun z => decide (z ∉ rr.take t)) := by
            rw [List.take_succ, hz, List.filter_append]
            rfl
          refine ⟨rfl, _, rfl, _, rfl, Hd, (rr.take t).map V.str, rfl, .inl (SqL.of (q2 _ _ h9)), rfl, flat_strs, ?_⟩
          refine ⟨!decide (z ∈ rr.take t), by rw [if_pos rfl, inV_str], ?_⟩
          by_cases hm : z ∈ rr.take t
          · refine Eq.mpr (if_neg (show ¬ ((!decide (z ∈ rr.take t)) = true) by simp [hm])) ?_
            rw [tk, List.filter_cons_of_neg (by simp [hm]), List.filter_nil, List.append_nil]
            exact ⟨q1, q2⟩
          · refine Eq.mpr (if_pos (show (!decide (z ∈ rr.take t)) = true by simp [hm])) ?_
            refine ⟨_, rfl, _, q1, ?_, ?_, fun b o e => ?_⟩
            · refine small1000 ?_
              rw [List.length_map]
              have := List.length_filter_le (fun z => decide (z ∉ rr.take t)) (bs.take j)
              have := pb.length_eq
              have := List.length_take_le j bs
              have := List.length_take_le' j bs
              omega
            · rw [upd_same, tk, List.filter_cons_of_pos (by simp [hm]), List.filter_nil, List.map_append]
              rfl
            · rw [upd_ne (ne_of_none e hD2)]
              exact q2 _ _ e
        · rintro H10 ⟨q1, q2⟩
          rw [List.length_map, List.take_length] at q1
          have perm9 := mixed_perm nd pb pr t
          have len9 := perm9.length_eq
          rw [List.length_append] at len9
          refine ⟨Hd, D2, _, _, rfl, rfl, q2 _ _ h9, q1, ?_, fun C nC => ?_⟩
          · rw [List.length_map, List.length_map, len9]
            exact Nat.le_of_lt (small1000 (by omega))
          · rw [← List.map_append]
            generalize hmix : rr.take t ++ bs.filter (fun z => decide (z ∉ rr.take t)) = mx at perm9 ⊢
            have s10 : Same H9 (upd H10 C (.lst (mx.map V.str))) := q2.trans (sn nC)
            have fC : upd H10 C (.lst (mx.map V.str)) C = some (.lst (mx.map V.str)) := upd_same
            have nCH : H C = none := new_back (b9.trans (But.same q2)) (hp9.same q2) nC
            have nCF : C ≠ Fo := Ne.symm (ne_of_none (q2 _ _ f9) nC)
            generalize upd H10 C (.lst (mx.map V.str)) = H11 at s10 fC ⊢
            have e11 := s10 _ _ e9
            have f11 := s10 _ _ f9
            have r11 := r9.same s10
            have hp11 := hp9.same s10
            have b11 := b9.trans (But.same s10)
            refine ⟨_, rfl, _, _, rfl, rfl, _, rfl, ?_⟩
            refine ite2 (fun _ => ?_) (fun _ => ?_)
            · have q := row_more (i := i) f11 r11 g3 g4 g5 e11 nBF (hp11.mono (show _ ≤ c + 300 + 300 * (i + 1) by omega)) b11 nFH fC nCH nCF perm9
              refine ⟨_, rfl, _, rfl, .inl ⟨rfl, _, SqL.of f11⟩, _, rfl, Fo, as.map V.ref, .ref C, rfl, rfl, f11, small1000 (by rw [List.length_map, r11.len]; omega), ?_⟩
              exact ⟨_, _, _, _, as ++ [C], rs ++ [mx], rfl, q⟩
            · refine ⟨_, rfl, C, _, rfl, SqL.of fC, fun C2 nC2 => ?_⟩
              rw [← List.map_reverse]
              have s12 : Same H11 (upd H11 C2 (.lst (mx.reverse.map V.str))) := sn nC2
              have f12 : upd H11 C2 (.lst (mx.reverse.map V.str)) C2 = some (.lst (mx.reverse.map V.str)) := upd_same
              have nC2H : H C2 = none := new_back b11 hp11 nC2
              have nC2F : C2 ≠ Fo := Ne.symm (ne_of_none f11 nC2)
              generalize upd H11 C2 (.lst (mx.reverse.map V.str)) = H12 at s12 f12 ⊢
              have q := row_more (i := i) (s12 _ _ f11) (r11.same s12) g3 g4 g5 (s12 _ _ e11) nBF ((hp11.same s12).mono (show _ ≤ c + 300 + 300 * (i + 1) by omega)) (b11.trans (But.same s12)) nFH f12 nC2H nC2F (mx.reverse_perm.trans perm9)
              refine ⟨_, rfl, .inl ⟨rfl, _, SqL.of (s12 _ _ f11)⟩, _, rfl, Fo, as.map V.ref, .ref C2, rfl, rfl, s12 _ _ f11, small1000 (by rw [List.length_map, r11.len]; omega), ?_⟩
              exact ⟨_, _, _, _, as ++ [C2], rs ++ [mx.reverse], rfl, q⟩
      · have q := row_more (i := i) f5 r5 g3 g4 g5 e5 nBF (hp5.mono (show _ ≤ c + 300 + 300 * (i + 1) by omega)) b5 nFH hR nRH nRF pr
        refine ⟨_, rfl, .inl ⟨rfl, _, SqL.of f5⟩, _, rfl, Fo, as.map V.ref, .ref R, rfl, rfl, f5, small1000 (by rw [List.length_map, r5.len]; omega), ?_⟩
        exact ⟨_, _, _, _, as ++ [R], rs ++ [rr], rfl, q⟩
    · rintro σ H4 ⟨o6, o7, o8, o9, as, rs, rfl, g1, g2, g3, g4, g5, g6, g7, g8⟩
      exact ⟨_, rfl, k Fo as rs H4 g1 nFH g2 g3 (by omega) g5 (g7.mono (by omega)) g8⟩
end
end K24

set_option maxHeartbeats 4000000
namespace K24
open PySem PySem.Spec PyProof.Rows L2 G1
theorem eqW_of {K : PySem.W.Frag} {H : Hp} {a c : Addr} {n : Nat} (h : Lists2 K H n (.ref a) (.ref c) true) : EqW K H (n + 1) (.ref a) (.ref c) true := by
  obtain ⟨_, _, us, ws, e1, e2, s1, s2, z⟩ := h
  cases e1
  cases e2
  by_cases q : a = c
  · subst q
    exact .same
  · rcases z with ⟨_, h⟩ | ⟨l, f, hf, hb⟩
    · cases h
    · rw [hb]
      exact .lists q s1 s2 l hf
/-- the same rows at two places -/
theorem eqW_rows {K : PySem.W.Frag} {H : Hp} {a c : Addr} {as cs : List Addr} {rs : List (List Str)} (ha : H a = some (.lst (as.map V.ref))) (hc : H c = some (.lst (cs.map V.ref))) (h1 : RowsAt H as rs) (h2 : RowsAt H cs rs) : EqW K H 2 (.ref a) (.ref c) true := by
  refine eqW_of ⟨a, c, _, _, rfl, rfl, SqL.of ha, SqL.of hc, .inr ⟨by rw [List.length_map, List.length_map, h1.len, h2.len], fun _ => true, fun i x y hx hy => ?_, by simp⟩⟩
  rw [List.getElem?_map] at hx hy
  obtain ⟨b, hb, rfl⟩ := Option.map_eq_some_iff.mp hx
  obtain ⟨d, hd, rfl⟩ := Option.map_eq_some_iff.mp hy
  obtain ⟨r, hr1, hr2⟩ := h1.at hb
  obtain ⟨t, ht1, ht2⟩ := h2.at hd
  rw [hr1] at ht1
  obtain rfl := Option.some.inj ht1
  refine eqW_of ?_
  have q := lists_strs (K := K) (SqL.of hr2) (SqL.of ht2)
  rwa [decide_eq_true rfl] at q
end K24

set_option maxHeartbeats 8000000
namespace K24
open PySem PySem.Spec PyProof.Rows L2 G1
/-- a panel stands as before where only the purse is changed -/
theorem PanF.but {H H2 : Hp} {C a p : Addr} {c : Nat} {xs : List Str} {rs : List (List Str)} (h : PanF H C a xs rs) (hp : Purse H p c) (b : But p H H2) : PanF H2 C a xs rs := by
  obtain ⟨⟨dx, fs, N, R, cs, h1, h2, h3, h4, h5, h6⟩, ⟨dx2, fs2, f1, f2⟩, le⟩ := h
  have na : a ≠ p := fun q => by
    obtain ⟨zs, hz, _⟩ := hp
    rw [q, hz] at h1
    cases h1
  exact ⟨⟨dx, fs, N, R, cs, b _ _ na h1, h2, h3, b _ _ (ne_purse h4 str_no_int hp) h4, b _ _ (ne_purse h5 ref_no_int hp) h5, h6.but b hp⟩, ⟨dx2, fs2, b _ _ na f1, f2⟩, le⟩
end K24

set_option maxHeartbeats 8000000
namespace K24
open PySem PySem.Spec PyProof.Rows L2 G1
/-! ### panels put side by side and behind -/
def sideR (rs ts : List (List Str)) : List (List Str) := rs.map (· ++ atR ts 0) ++ ts.map (· ++ atR rs 0)
def behR (rs ts : List (List Str)) : List (List Str) := (List.range (max rs.length ts.length)).map fun i => atR rs (min i (rs.length - 1)) ++ atR ts (min i (ts.length - 1))
/-- what is known of two panels that share no name -/
structure Two (xs ys zs : List Str) (rs ts : List (List Str)) : Prop where
  a : Good xs rs
  b : Good ys ts
  ap : ∀ z ∈ ys, z ∉ xs
  pz : zs.Perm (xs ++ ys)
  so : sortedS zs = true
  l7 : zs.length ≤ 7
  r3 : rs.length ≤ 3
  t3 : ts.length ≤ 3
theorem at_mem {rs : List (List Str)} {i : Nat} (h : i < rs.length) : atR rs i ∈ rs ∧ rs[i]? = some (atR rs i) := by
  have e : rs[i]? = some rs[i] := List.getElem?_eq_getElem h
  rw [atR_of e]
  exact ⟨List.getElem_mem h, e⟩
section
variable {xs ys zs : List Str} {rs ts : List (List Str)}
theorem Two.nd (h : Two xs ys zs rs ts) : zs.Nodup := h.pz.nodup_iff.mpr (List.nodup_append.mpr ⟨h.a.nd, h.b.nd, fun a ha b hb e => h.ap b hb (e ▸ ha)⟩)
theorem Two.len (h : Two xs ys zs rs ts) : xs.length + ys.length = zs.length := by rw [h.pz.length_eq, List.length_append]
theorem Two.nm (h : Two xs ys zs rs ts) : ∀ z ∈ zs, Nm z := fun z hz => (List.mem_append.mp (h.pz.mem_iff.mp hz)).elim (h.a.nm z) (h.b.nm z)
theorem side_len : (sideR rs ts).length = rs.length + ts.length := by
  unfold sideR
  rw [List.length_append, List.length_map, List.length_map]
theorem beh_len : (behR rs ts).length = max rs.length ts.length := by
  unfold behR
  rw [List.length_map, List.length_range]
theorem Two.side (h : Two xs ys zs rs ts) : Good zs (sideR rs ts) := by
  have l := h.len
  have l1 := h.a.l1
  have r1 := h.a.r1
  have t1 := h.b.r1
  have r3 := h.r3
  have t3 := h.t3
  refine ⟨h.nm, h.nd, by omega, h.l7, h.so, fun y hy => ?_, by rw [side_len]; omega, by rw [side_len]; omega⟩
  rcases List.mem_append.mp hy with q | q
  · obtain ⟨r, hr, rfl⟩ := List.mem_map.mp q
    exact ((h.a.pr r hr).append (h.b.pr _ (at_mem (by omega)).1)).trans h.pz.symm
  · obtain ⟨t, ht, rfl⟩ := List.mem_map.mp q
    exact (((h.b.pr t ht).append (h.a.pr _ (at_mem (by omega)).1)).trans List.perm_append_comm).trans h.pz.symm
theorem Two.beh (h : Two xs ys zs rs ts) : Good zs (behR rs ts) := by
  have l := h.len
  have l1 := h.a.l1
  have r1 := h.a.r1
  have t1 := h.b.r1
  have r3 := h.r3
  have t3 := h.t3
  refine ⟨h.nm, h.nd, by omega, h.l7, h.so, fun y hy => ?_, by rw [beh_len]; omega, by rw [beh_len]; omega⟩
  obtain ⟨i, hi, rfl⟩ := List.mem_map.mp hy
  exact ((h.a.pr _ (at_mem (by omega)).1).append (h.b.pr _ (at_mem (by omega)).1)).trans h.pz.symm
theorem beh_succ {i : Nat} : ((List.range (i + 1)).map fun i => atR rs (min i (rs.length - 1)) ++ atR ts (min i (ts.length - 1))) = ((List.range i).map fun i => atR rs (min i (rs.length - 1)) ++ atR ts (min i (ts.length - 1))) ++ [atR rs (min i (rs.length - 1)) ++ atR ts (min i (ts.length - 1))] := by
  rw [List.range_succ, List.map_append]
  rfl
end
def spApart (C : Addr) : Sp := fun vs H Q _ => ∃ (a b : Addr) (xs ys : List Str) (rs ts : List (List Str)), vs = [.ref a, .ref b] ∧ PanF H C a xs rs ∧ PanF H C b ys ts ∧ (∀ z ∈ ys, z ∉ xs) ∧ ys.length ≤ 60 ∧
  ∀ H', Same H H' → Q .non H'
def spBoth (C : Addr) (g : List (List Str) → List (List Str) → List (List Str)) : Sp := fun vs H Q _ => ∃ (a b : Addr) (xs ys zs : List Str) (rs ts : List (List Str)), vs = [.ref a, .ref b] ∧ PanF H C a xs rs ∧ PanF H C b ys ts ∧ Two xs ys zs rs ts ∧
  ∀ (PN : Addr) (H' : Hp), Same H H' → H PN = none → PanF H' C PN zs (g rs ts) → Q (.ref PN) H'
section
variable {P : Program} {w : World} {K : PySem.W.Frag} {mg : Str → Option Value} {base : Heap} {C : Addr}
end
end K24

set_option maxHeartbeats 8000000
namespace K24
open PySem PySem.Spec PyProof.Rows L2 G1
/-- new rows, one of each old one -/
theorem lc_make {K : PySem.W.Frag} {R D : Addr} {n : Nat} {vs : List Nat} {as : List Addr} {rs : List (List Str)} {f : List Str → List Str} {te : TE} {H1 : Hp} {σ : L2.St} {Qd : Hp → Prop} (hR : H1 R = some (.lst (as.map V.ref))) (has : RowsAt H1 as rs) (le : rs.length ≤ 60) (hD : H1 D = none)
    (hw : ∀ v, wipe ((wipe σ vs).set n (some v)) vs = wipe σ vs)
    (hs : ∀ (i : Nat) (r : List Str) (c : Addr) (H' : Hp) (Qk : VK), rs[i]? = some r → H' c = some (.lst (r.map V.str)) → Same H1 H' → (∀ G H5, Same H' H5 → H' G = none → H5 G = some (.lst ((f r).map V.str)) → Qk (.ref G) H5) → te ((wipe σ vs).set n (some (.ref c))) H' Qk)
    (hd : ∀ (bs : List Addr) (H' : Hp), H' D = some (.lst (bs.map V.ref)) → RowsAt H' bs (rs.map f) → Same H1 H' → Qd H') : ∃ W : Nat → Nat → Hp → Prop, (∃ m, W 0 m (upd H1 D (.lst []))) ∧ ∀ i m H, W i m H → ((Itl K R).stop i H ∧ Qd H) ∨ ((Itl K R).go i H ∧ ∃ Nx : Hp → Prop, (∀ H', Nx H' → ∃ m', m' < m ∧ W (i + 1) m' H') ∧ ∀ x H', (Itl K R).yld i H x H' → gName n x (wipe σ vs) H' fun σ2 H2 => wipe σ2 vs = wipe σ vs ∧ tYes σ2 H2 fun b H3 => if b = true then te σ2 H3 fun y H4 => ∃ acc, H4 D = some (.lst acc) ∧ acc.length < sizeLine ∧ Nx (upd H4 D (.lst (acc ++ [y]))) else Nx H3) := by
  refine lc_list (K := K) (a := R) (xs := as.map V.ref) (fun i H' => ∃ bs : List Addr, H' D = some (.lst (bs.map V.ref)) ∧ RowsAt H' bs ((rs.take i).map f) ∧ (∀ b ∈ bs, b ≠ D) ∧ Same H1 H') ⟨[], upd_same, .nil, (fun b hb => nomatch hb), sn hD⟩ (fun i H' _ h => by obtain ⟨_, _, _, _, h⟩ := h; exact SqL.of (h _ _ hR)) ?_ ?_
  · rintro i y H' hi ⟨bs, q1, q2, q3, q4⟩
    rw [List.getElem?_map] at hi
    obtain ⟨c, hc, rfl⟩ := Option.map_eq_some_iff.mp hi
    obtain ⟨r, hr1, hr2⟩ := has.at hc
    refine ⟨hw _, hs i r c H' _ hr1 (q4 _ _ hr2) q4 fun G H5 s5 nG hG => ?_⟩
    have nGD : G ≠ D := Ne.symm (ne_of_none q1 nG)
    have tk2 : (rs.take (i + 1)).map f = (rs.take i).map f ++ [f r] := by rw [List.take_succ, hr1, List.map_append]; rfl
    refine ⟨_, s5 _ _ q1, small1000 ?_, bs ++ [G], by rw [upd_same, List.map_append]; rfl, ?_, fun m hm => ?_, fun b o e => ?_⟩
    · rw [List.length_map, q2.len, List.length_map]
      have := List.length_take_le' i rs
      omega
    · rw [tk2]
      exact RowsAt.snoc ((q2.same s5).keep fun x hx o e => by rw [upd_ne (q3 x hx)]; exact e) (by rw [upd_ne nGD]; exact hG)
    · rcases List.mem_append.mp hm with h | h
      · exact q3 m h
      · rw [List.mem_singleton.mp h]
        exact nGD
    · rw [upd_ne (ne_of_none e hD)]
      exact s5 _ _ (q4 _ _ e)
  · rintro H3 ⟨bs, q1, q2, q3, q4⟩
    rw [List.length_map, has.len, List.take_length] at q2
    exact hd bs H3 q1 q2 q4
/-- new rows, one of each number -/
theorem lc_makeR {D : Addr} {n N : Nat} {vs : List Nat} {f : Nat → List Str} {te : TE} {H1 : Hp} {σ : L2.St} {Qd : Hp → Prop} (le : N ≤ 60) (hD : H1 D = none)
    (hw : ∀ v, wipe ((wipe σ vs).set n (some v)) vs = wipe σ vs)
    (hs : ∀ (i : Nat) (H' : Hp) (Qk : VK), i < N → Same H1 H' → (∀ G H5, Same H' H5 → H' G = none → H5 G = some (.lst ((f i).map V.str)) → Qk (.ref G) H5) → te ((wipe σ vs).set n (some (.int ((0 : Int) + i)))) H' Qk)
    (hd : ∀ (bs : List Addr) (H' : Hp), H' D = some (.lst (bs.map V.ref)) → RowsAt H' bs ((List.range N).map f) → Same H1 H' → Qd H') : ∃ W : Nat → Nat → Hp → Prop, (∃ m, W 0 m (upd H1 D (.lst []))) ∧ ∀ i m H, W i m H → ((Itr 0 N).stop i H ∧ Qd H) ∨ ((Itr 0 N).go i H ∧ ∃ Nx : Hp → Prop, (∀ H', Nx H' → ∃ m', m' < m ∧ W (i + 1) m' H') ∧ ∀ x H', (Itr 0 N).yld i H x H' → gName n x (wipe σ vs) H' fun σ2 H2 => wipe σ2 vs = wipe σ vs ∧ tYes σ2 H2 fun b H3 => if b = true then te σ2 H3 fun y H4 => ∃ acc, H4 D = some (.lst acc) ∧ acc.length < sizeLine ∧ Nx (upd H4 D (.lst (acc ++ [y]))) else Nx H3) := by
  refine lc_range (lo := 0) (n := N) (fun i H' => ∃ bs : List Addr, H' D = some (.lst (bs.map V.ref)) ∧ RowsAt H' bs ((List.range i).map f) ∧ (∀ b ∈ bs, b ≠ D) ∧ Same H1 H') ⟨[], upd_same, .nil, (fun b hb => nomatch hb), sn hD⟩ ?_ ?_
  · rintro i H' hi ⟨bs, q1, q2, q3, q4⟩
    refine ⟨hw _, hs i H' _ hi q4 fun G H5 s5 nG hG => ?_⟩
    have nGD : G ≠ D := Ne.symm (ne_of_none q1 nG)
    have tk2 : (List.range (i + 1)).map f = (List.range i).map f ++ [f i] := by rw [List.range_succ, List.map_append]; rfl
    refine ⟨_, s5 _ _ q1, small1000 ?_, bs ++ [G], by rw [upd_same, List.map_append]; rfl, ?_, fun m hm => ?_, fun b o e => ?_⟩
    · rw [List.length_map, q2.len, List.length_map, List.length_range]
      omega
    · rw [tk2]
      exact RowsAt.snoc ((q2.same s5).keep fun x hx o e => by rw [upd_ne (q3 x hx)]; exact e) (by rw [upd_ne nGD]; exact hG)
    · rcases List.mem_append.mp hm with h | h
      · exact q3 m h
      · rw [List.mem_singleton.mp h]
        exact nGD
    · rw [upd_ne (ne_of_none e hD)]
      exact s5 _ _ (q4 _ _ e)
  · rintro H3 ⟨bs, q1, q2, q3, q4⟩
    exact hd bs H3 q1 q2 q4
abbrev rLenQ (K : PySem.W.Frag) : List V → Hp → VK → Prop := fun xs H Q => ∃ p ys, xs = [.ref p] ∧ (SqL K H p ys ∨ SqT K H p ys) ∧ Q (.int ys.length) H
abbrev rMinQ : List V → Hp → VK → Prop := fun xs H Q => ∃ i j, xs = [.int i, .int j] ∧ Q (.int (if j < i then j else i)) H
theorem max_int {a b : Nat} : (if (b : Int) > (a : Int) then (b : Int) else (a : Int)) = ((max a b : Nat) : Int) := by
  by_cases h : (b : Int) > (a : Int)
  · rw [if_pos h]; omega
  · rw [if_neg h]; omega
theorem min_int {i n : Nat} (h : 1 ≤ n) : (if (n : Int) - 1 < (0 : Int) + (i : Int) then (n : Int) - 1 else (0 : Int) + (i : Int)) = ((min i (n - 1) : Nat) : Int) := by
  by_cases q : (n : Int) - 1 < (0 : Int) + (i : Int)
  · rw [if_pos q]; omega
  · rw [if_neg q]; omega
section
variable {P : Program} {w : World} {K : PySem.W.Frag} {mg : Str → Option Value} {base : Heap} {C : Addr}
end
end K24

set_option maxHeartbeats 8000000
namespace K24
open PySem PySem.Spec PyProof.Rows L2 G1
abbrev rCopyL2 (K : PySem.W.Frag) : List V → Hp → VK → Prop := fun xs H Q => ∃ p ys, xs = [V.ref p] ∧ (SqL K H p ys ∨ SqT K H p ys) ∧ ∀ l, H l = none → Q (.ref l) (upd H l (.lst ys))
/-- entries and rows, many of them -/
structure GoodW (xs : List Str) (rs : List (List Str)) : Prop where
  nm : ∀ z ∈ xs, Nm z
  nd : xs.Nodup
  l1 : 1 ≤ xs.length
  l40 : xs.length ≤ 40
  so : sortedS xs = true
  pr : ∀ r ∈ rs, r.Perm xs
  r1 : 1 ≤ rs.length
  r12 : rs.length ≤ 12
theorem GoodW.rw {xs : List Str} {rs : List (List Str)} (g : GoodW xs rs) : Rw xs rs := ⟨g.nd, g.l40, g.pr, by have := g.r12; omega, g.so, g.r1⟩
def spPanQ (C : Addr) : Sp := fun vs H Q _ => ∃ (n R : Addr) (xs : List Str) (as : List Addr) (rs : List (List Str)), vs = [.ref n, .ref R] ∧ H n = some (.lst (xs.map V.str)) ∧ H R = some (.lst (as.map V.ref)) ∧ RowsAt H as rs ∧ GoodW xs rs ∧
  ∀ (PN : Addr) (H' : Hp), Same H H' → H PN = none → PanF H' C PN xs rs → Q (.ref PN) H'
def spTurnInto : Sp := fun vs H Q _ => ∃ (a b : Addr) (us ws : List V), vs = [.ref a, .ref b] ∧ H a = some (.lst us) ∧ H b = some (.lst ws) ∧ a ≠ b ∧ ws.length ≤ 100 ∧ Q .non (upd H a (.lst ws))
def spOwnHull : Sp := fun vs H Q _ => ∃ (n R l : Addr) (xs fs : List Str) (as : List Addr) (rs : List (List Str)), vs = [.ref n, .ref R, .ref l] ∧ H n = some (.lst (xs.map V.str)) ∧ H R = some (.lst (as.map V.ref)) ∧ RowsAt H as rs ∧ H l = some (.lst (fs.map V.str)) ∧ fs.length ≤ 40 ∧ xs.length ≤ 40 ∧ (∀ r ∈ rs, r.Perm xs) ∧ rs.length ≤ 12 ∧
  ∀ (D : Addr) (H' : Hp), Same H H' → H D = none → H' D = some (.lst ((hullL xs rs fs).map V.str)) → Q (.ref D) H'
theorem mem_cds {fs : List Str} {rs : List (List Str)} {z : Str} : z ∈ cdsOf fs rs ↔ ∃ r ∈ rs, fst? fs r = some z := List.mem_filterMap
theorem idx_app {as bs : List Str} {z : Str} (h : z ∉ as) : (as ++ z :: bs).idxOf z = as.length := by
  induction as with
  | nil => simp [List.idxOf_cons]
  | cons a as ih =>
    have n : (a == z) = false := beq_eq_false_iff_ne.mpr fun e => h (e ▸ .head _)
    rw [List.cons_append, List.idxOf_cons, n, ih fun q => h (.tail _ q)]
    rfl
theorem fst_own {fs r : List Str} {z : Str} (hz : z ∈ r) (nz : z ∉ fs) : fst? (fs ++ [z]) r = some z ↔ ((r.take (r.idxOf z)).any fun y => decide (y ∈ fs)) = false := by
  unfold fst?
  constructor
  · intro h
    obtain ⟨_, as, bs, rfl, hn⟩ := List.find?_eq_some_iff_append.mp h
    have na : z ∉ as := fun q => by
      have := hn z q
      simp at this
    rw [idx_app na, List.take_left]
    refine List.any_eq_false.mpr fun y hy q => ?_
    have := hn y hy
    rw [decide_eq_true (List.mem_append.mpr (.inl (of_decide_eq_true q)))] at this
    cases this
  · intro h
    have hl := List.idxOf_lt_length_of_mem hz
    refine find_at (i := r.idxOf z) (List.find?_eq_none.mpr fun y hy q => ?_) (by rw [List.getElem?_eq_getElem hl, List.getElem_idxOf]) (decide_eq_true (List.mem_append.mpr (.inr (.head _))))
    rcases List.mem_append.mp (of_decide_eq_true q) with q | q
    · exact List.any_eq_false.mp h y hy (decide_eq_true q)
    · rw [List.mem_singleton.mp q] at hy
      obtain ⟨j, hj, e⟩ := List.mem_iff_getElem.mp hy
      rw [List.length_take] at hj
      rw [List.getElem_take] at e
      have := List.not_of_lt_findIdx (p := fun y => y == z) (xs := r) (i := j) (by show j < r.idxOf z; omega)
      rw [e, beq_self_eq_true] at this
      cases this
theorem own_off {xs fs : List Str} {rs : List (List Str)} {z : Str} (pr : ∀ r ∈ rs, r.Perm xs) (hz : z ∈ xs) (nz : z ∉ fs) : (decide (z ∉ cdsOf (fs ++ [z]) rs)) = offB rs fs z := by
  unfold offB
  refine Bool.eq_iff_iff.mpr ⟨fun h => List.all_eq_true.mpr fun r hr => ?_, fun h => decide_eq_true fun q => ?_⟩
  · cases e : (r.take (r.idxOf z)).any fun y => decide (y ∈ fs) with
    | true => rfl
    | false => exact absurd (mem_cds.mpr ⟨r, hr, (fst_own ((pr r hr).mem_iff.mpr hz) nz).mpr e⟩) (of_decide_eq_true h)
  · obtain ⟨r, hr, e⟩ := mem_cds.mp q
    have := (fst_own ((pr r hr).mem_iff.mpr hz) nz).mp e
    rw [List.all_eq_true.mp h r hr] at this
    cases this
section
variable {P : Program} {w : World} {K : PySem.W.Frag} {mg : Str → Option Value} {base : Heap} {C : Addr}
abbrev sPanQ : Stmt := top 50
abbrev nPanQ : List Str := ["_law_names_here", "_law_rows", "_law_row"]
theorem scPanQ : FnScope nPanQ ["_law_names_here", "_law_rows"] (defScope sPanQ) := ⟨rfl, rfl, rfl, by decide +kernel, rfl, by decide +kernel, by decide +kernel⟩
theorem ok_panQ {f fI : Addr} {fd fdI : FuncData} (F : FnP K "_law_panel" sPanQ f fd) (LP : LibP mg) (M : Mk K C fI) (gP : mg "Panel" = some (.ref C)) (FI : FnM K "__init__" "Panel.__init__" sInit fI fdI) (GI : FnOk P w K mg base (L2.CX P w) 4 fI fdI ["self", "entries", "rows"] (spInit K C)) :
    FnOk P w K mg base CX0 6 f fd ["_law_names_here", "_law_rows"] (spPanQ C) := by
  have bI : Binds K fdI ["self", "entries", "rows"] [] := FI.bindsN fun _ _ _ _ _ _ us hl => match us, hl with | [_, _, _], _ => rfl
  refine okN F scPanQ (fun vs H Q E h => ?_) (fun cdv A outer s H vs Q E hr h => ?_)
  · obtain ⟨_, _, _, _, _, rfl, _⟩ := h
    rfl
  · obtain ⟨n, R, xs, as, rs, rfl, hn, hR, has, gd, k⟩ := h
    have nd := scPanQ.nd
    have l40 := gd.l40
    have r12 := gd.r12
    have r5 : Room 5 (A.deeper (envOfC "_law_panel" (defScope sPanQ) s.heap.objs.size f cdv)) := hr.mono (by decide)
    refine' ⟨_, pss_one ?b0, ?_⟩
    case b0 => exact (ps_ret (pe_makeS M GI r5 (by rfl) gP bI (fun σ => passAt takes_none5 σ) (pa_cons (pe_callTy call_list_of (by rfl) LP.list (by decide +kernel) (pa_cons (pv 0) pa_nil)) (pa_cons (pe_lc (own := [("_law_row", 2)]) (g := gName 2) (tt := tYes) (te := (tCB (rCopyL2 K) (tCons (tVar 2) tNil))) (by rfl) nd (pi_list (pv 1))
        (blkOk_by (N := nPanQ) (sc := (defScope sPanQ)) (by decide +kernel)) (fun _ _ _ _ _ => (pg_name (i := 2) scPanQ.nd rfl (Or.inl rfl))) (fun _ _ _ _ _ => pts_nil) (fun _ _ _ _ _ => (pe_callTy call_list_of (by rfl) LP.list (by decide +kernel) (pa_cons (pv 2) pa_nil)))) pa_nil))))
    refine ⟨_, rfl, n, _, rfl, .inl (SqL.of hn), fun D1 nD1 => ?_⟩
    have s1 := sn nD1 (o := .lst (xs.map V.str))
    refine ⟨_, rfl, R, rfl, ⟨_, SqL.of (s1 _ _ hR)⟩, fun D2 nD2 => lc_make (f := id) (s1 _ _ hR) (has.same s1) (by omega) nD2 (fun _ => rfl) (fun i r c H' Qk hr0 hc s' kk => ?_) fun cs H3 q1 q2 s3 => ?_⟩
    · exact ⟨_, rfl, c, _, rfl, .inl (SqL.of hc), fun l nl => kk l _ (sn nl) nl upd_same⟩
    rw [List.map_id] at q2
    refine make_ok (zs := xs) (xs := xs) (s3 _ _ upd_same) gd.nm gd.nd gd.l1 l40 (.refl _) gd.so q1 q2 gd.pr gd.r1 (by omega) fun PN H4 s4 nPN pan _ fre => ?_
    exact k PN H4 ((s1.trans s3).trans s4) ((s1.trans s3).free nPN) ⟨pan, fre.same new_sub, by omega⟩
end
end K24

set_option maxHeartbeats 8000000
namespace K24
open PySem PySem.Spec PyProof.Rows L2 G1
/-- whether two panels name the same cards on a field -/
def sameC (fs : List Str) (rs ts : List (List Str)) : Bool := (cdsOf fs rs).all (fun z => decide (z ∈ cdsOf fs ts)) && (cdsOf fs ts).all fun z => decide (z ∈ cdsOf fs rs)
theorem sameC_iff {fs : List Str} {rs ts : List (List Str)} : sameC fs rs ts = true ↔ ∀ z, z ∈ cdsOf fs rs ↔ z ∈ cdsOf fs ts := by
  unfold sameC
  rw [Bool.and_eq_true, List.all_eq_true, List.all_eq_true]
  constructor
  · rintro ⟨h1, h2⟩ z
    exact ⟨fun h => of_decide_eq_true (h1 z h), fun h => of_decide_eq_true (h2 z h)⟩
  · intro h
    exact ⟨fun z hz => decide_eq_true ((h z).mp hz), fun z hz => decide_eq_true ((h z).mpr hz)⟩
theorem same_dec {fs c1 c2 : List Str} {rs ts : List (List Str)} (s1 : sortedS c1 = true) (s2 : sortedS c2 = true) (n1 : c1.Nodup) (n2 : c2.Nodup) (m1 : ∀ z, z ∈ c1 ↔ z ∈ cdsOf fs rs) (m2 : ∀ z, z ∈ c2 ↔ z ∈ cdsOf fs ts) : decide (c1 = c2) = sameC fs rs ts := by
  refine Bool.eq_iff_iff.mpr ?_
  rw [decide_eq_true_iff, sameC_iff]
  constructor
  · rintro rfl z
    rw [← m1, m2]
  · intro h
    exact sorted_ext s1 s2 n1 n2 fun z => by rw [m1, m2, h]
theorem sameC_sym {fs : List Str} {rs ts : List (List Str)} : sameC fs rs ts = sameC fs ts rs := by
  refine Bool.eq_iff_iff.mpr ?_
  rw [sameC_iff, sameC_iff]
  exact ⟨fun h z => (h z).symm, fun h z => (h z).symm⟩
theorem mem_fstD2 {fs : List Str} {rs : List (List Str)} (h : ∀ r ∈ rs, ∃ z, fst? fs r = some z) {z : Str} : z ∈ rs.map (fstD fs) ↔ z ∈ cdsOf fs rs := by
  rw [cds_mem, List.mem_map]
  refine ⟨fun ⟨r, hr, e⟩ => ⟨r, hr, ?_⟩, fun ⟨r, hr, e⟩ => ⟨r, hr, fstD_of e⟩⟩
  obtain ⟨y, hy⟩ := h r hr
  rw [fstD_of hy] at e
  rw [hy, e]
end K24

set_option maxHeartbeats 4000000
/-! x < y of data; lists of texts in their order; the fields between a lot and its hull, numbered in their order -/
namespace G1
open PySem PySem.Spec PyProof.Rows L2 PySem.W
def rLtD (K : PySem.W.Frag) : R2 := fun x y H Q => ∃ d e : PyData, Dp K H x d ∧ Dp K H y e ∧ alike d e = true ∧ d ≠ .none ∧ d.depth ≤ 20 ∧ Q (.bl (dataLt d e)) H
section
variable {X : Cx}
theorem op_ltD (hu : X.A.units + 22 < cLine) : OpR X (compareOp .Lt) (rLtD X.K) := by
  intro pins s σ H x y v u Q I rx ry h
  obtain ⟨d, e, hd, he, al, hn, dp, q⟩ := h
  obtain ⟨as, r1⟩ := Dp.reads I d x v hd rx
  obtain ⟨bs, r2⟩ := Dp.reads I e y u he ry
  exact lt_data r1 r2 al hn (by have := Nat.min_le_left d.depth e.depth; omega) ⟨.bl _, H, I, rfl, q⟩
end
def ltS (a b : Str) : Prop := a.cps.toList < b.cps.toList
section
variable {α : Type} [DecidableEq α] {lt : α → α → Prop}
def lexL (lt : α → α → Prop) : List α → List α → Prop
  | _, [] => False
  | [], _ :: _ => True
  | a :: s, b :: t => lt a b ∨ (a = b ∧ lexL lt s t)
def freeN (L : List α) (hs : List α) : Nat := (hs.filter fun z => decide (z ∉ L)).length
/-- the field with number i among those between the lot and all of hs -/
def atF (L : List α) (w : α) : List α → Bool → Nat → List α
  | [], _, _ => []
  | z :: t, e, i =>
    if z ∈ L then z :: atF L w t (e || decide (z = w)) i
    else if i < (if e then 1 else 0) then []
    else if i < (if e then 1 else 0) + 2 ^ freeN L t then z :: atF L w t e (i - if e then 1 else 0)
    else atF L w t e (i - 2 ^ freeN L t)
def rkF (L : List α) (w : α) : List α → Bool → List α → Nat
  | [], _, _ => 0
  | z :: t, e, S =>
    if z ∈ L then rkF L w t (e || decide (z = w)) S.tail
    else match S with
      | [] => 0
      | y :: S' => if y = z then (if e then 1 else 0) + rkF L w t e S' else 2 ^ freeN L t + rkF L w t e (y :: S')
theorem freeN_in {L t : List α} {z : α} (h : z ∈ L) : freeN L (z :: t) = freeN L t := by
  unfold freeN
  rw [List.filter_cons_of_neg (by simpa using h)]
theorem freeN_out {L t : List α} {z : α} (h : z ∉ L) : freeN L (z :: t) = freeN L t + 1 := by
  unfold freeN
  rw [List.filter_cons_of_pos (by simpa using h), List.length_cons]
/-- what holds on the way: e says that the last one of the lot is behind -/
structure InvF (lt : α → α → Prop) (L : List α) (w : α) (hs : List α) (e : Bool) : Prop where
  wL : w ∈ L
  pw : hs.Pairwise lt
  f : e = false → w ∈ hs
  t : e = true → ∀ z ∈ hs, z ∉ L
  top : ∀ x ∈ L, x = w ∨ lt x w
  ir : ∀ x, ¬ lt x x
  tr : ∀ x y z, lt x y → lt y z → lt x z
theorem InvF.next_in {L : List α} {w z : α} {t : List α} {e : Bool} (h : InvF lt L w (z :: t) e) (hz : z ∈ L) : InvF lt L w t (e || decide (z = w)) := by
  obtain ⟨wL, pw, f, tt, top, ir, tr⟩ := h
  have pz := List.pairwise_cons.mp pw
  refine ⟨wL, pz.2, fun q => ?_, fun q => ?_, top, ir, tr⟩
  · rw [Bool.or_eq_false_iff] at q
    have q2 := of_decide_eq_false q.2
    rcases List.mem_cons.mp (f q.1) with r | r
    · exact absurd r.symm q2
    · exact r
  · cases e with
    | true => exact absurd hz (tt rfl z List.mem_cons_self)
    | false =>
      have q2 : z = w := by simpa using q
      intro y hy hyL
      have zy := pz.1 y hy
      rcases top y hyL with r | r
      · rw [r, ← q2] at zy
        exact ir _ zy
      · rw [← q2] at r
        exact ir _ (tr _ _ _ zy r)
theorem InvF.next_out {L : List α} {w z : α} {t : List α} {e : Bool} (h : InvF lt L w (z :: t) e) (hz : z ∉ L) : InvF lt L w t e := by
  obtain ⟨wL, pw, f, tt, top, ir, tr⟩ := h
  have pz := List.pairwise_cons.mp pw
  refine ⟨wL, pz.2, fun q => ?_, fun q y hy => tt q y (List.mem_cons_of_mem _ hy), top, ir, tr⟩
  rcases List.mem_cons.mp (f q) with r | r
  · rw [r] at wL
    exact absurd wL hz
  · exact r
theorem atF_sub (L : List α) (w : α) : ∀ (hs : List α) (e : Bool) (i : Nat), (atF L w hs e i).Sublist hs
  | [], _, _ => .refl _
  | z :: t, e, i => by
    unfold atF
    by_cases h1 : z ∈ L
    · rw [if_pos h1]
      exact (atF_sub L w t _ _).cons_cons z
    · rw [if_neg h1]
      generalize (if e = true then 1 else 0) = en
      split
      · exact List.nil_sublist _
      · split
        · exact (atF_sub L w t _ _).cons_cons z
        · exact (atF_sub L w t _ _).cons z
theorem atF_has {L : List α} {w : α} : ∀ {hs : List α} {e : Bool} {i : Nat}, InvF lt L w hs e → ∀ z ∈ hs, z ∈ L → z ∈ atF L w hs e i
  | [], _, _, _, _, h, _ => nomatch h
  | x :: t, e, i, I, z, hz, hL => by
    unfold atF
    by_cases hx : x ∈ L
    · rw [if_pos hx]
      rcases List.mem_cons.mp hz with r | r
      · rw [r]; exact List.mem_cons_self
      · exact List.mem_cons_of_mem _ (atF_has (I.next_in hx) z r hL)
    · rw [if_neg hx]
      have ef : e = false := by
        cases e with
        | false => rfl
        | true => exact absurd hL (I.t rfl z hz)
      subst ef
      have ht : z ∈ t := by
        rcases List.mem_cons.mp hz with r | r
        · rw [r] at hL; exact absurd hL hx
        · exact r
      simp only [Bool.false_eq_true, if_false, Nat.not_lt_zero]
      split
      · exact List.mem_cons_of_mem _ (atF_has (I.next_out hx) z ht hL)
      · exact atF_has (I.next_out hx) z ht hL
theorem atF_ne {L : List α} {w : α} {hs : List α} {i : Nat} (I : InvF lt L w hs false) : atF L w hs false i ≠ [] := fun h => by
  have := atF_has (i := i) I w (I.f rfl) I.wL
  rw [h] at this
  cases this
theorem atF_ne1 {L : List α} {w : α} : ∀ {hs : List α} {i : Nat}, InvF lt L w hs true → 1 ≤ i → i < 2 ^ freeN L hs → atF L w hs true i ≠ []
  | [], i, _, h1, h2 => by simp [freeN] at h2; omega
  | z :: t, i, I, h1, h2 => by
    have hz := I.t rfl z List.mem_cons_self
    rw [freeN_out hz, Nat.pow_succ] at h2
    unfold atF
    rw [if_neg hz, if_neg (by simp; omega)]
    simp only [if_true]
    split
    · exact List.cons_ne_nil _ _
    · exact atF_ne1 (I.next_out hz) (by omega) (by omega)
theorem lex_nil {s : List α} (h : s ≠ []) : lexL lt [] s := by
  cases s with
  | nil => exact absurd rfl h
  | cons a b => trivial
theorem atF_lt {L : List α} {w : α} : ∀ {hs : List α} {e : Bool} {i j : Nat}, InvF lt L w hs e → i < j → j < 2 ^ freeN L hs → lexL lt (atF L w hs e i) (atF L w hs e j)
  | [], _, i, j, _, h1, h2 => by simp [freeN] at h2; omega
  | z :: t, e, i, j, I, h1, h2 => by
    by_cases hz : z ∈ L
    · rw [freeN_in hz] at h2
      unfold atF
      rw [if_pos hz, if_pos hz]
      exact .inr ⟨rfl, atF_lt (I.next_in hz) h1 h2⟩
    · rw [freeN_out hz, Nat.pow_succ] at h2
      have J := I.next_out hz
      have ne : ∀ k, (if e then 1 else 0) ≤ k → k < 2 ^ freeN L t → atF L w t e k ≠ [] := fun k h3 h4 => by
        cases e with
        | false => exact atF_ne J
        | true => exact atF_ne1 J h3 h4
      have hh : ∀ k, (if e then 1 else 0) ≤ k → k < 2 ^ freeN L t → ∃ y S, atF L w t e k = y :: S ∧ y ∈ t := fun k h3 h4 => by
        cases h : atF L w t e k with
        | nil => exact absurd h (ne k h3 h4)
        | cons y S => exact ⟨y, S, rfl, (atF_sub L w t e k).subset (by rw [h]; exact List.mem_cons_self)⟩
      unfold atF
      rw [if_neg hz, if_neg hz]
      have p1 : (if e then 1 else 0) ≤ 1 := by split <;> omega
      have p2 : 0 < 2 ^ freeN L t := Nat.two_pow_pos _
      generalize hen : (if e = true then 1 else 0) = en at *
      by_cases a1 : i < en
      · rw [if_pos a1, if_neg (show ¬ j < en by omega)]
        by_cases a2 : j < en + 2 ^ freeN L t
        · rw [if_pos a2]; trivial
        · rw [if_neg a2]; exact lex_nil (ne _ (by omega) (by omega))
      · rw [if_neg a1, if_neg (show ¬ j < en by omega)]
        by_cases a2 : i < en + 2 ^ freeN L t
        · rw [if_pos a2]
          by_cases a3 : j < en + 2 ^ freeN L t
          · rw [if_pos a3]
            exact .inr ⟨rfl, atF_lt J (by omega) (by omega)⟩
          · rw [if_neg a3]
            obtain ⟨y, S, e1, hy⟩ := hh (j - 2 ^ freeN L t) (by omega) (by omega)
            rw [e1]
            exact .inl ((List.pairwise_cons.mp I.pw).1 y hy)
        · rw [if_neg a2, if_neg (show ¬ j < en + 2 ^ freeN L t by omega)]
          exact atF_lt J (by omega) (by omega)
theorem rkF_one {L : List α} {w : α} : ∀ {hs S : List α}, InvF lt L w hs true → S ≠ [] → S.Sublist hs → 1 ≤ rkF L w hs true S
  | [], S, _, h, hs => absurd (List.sublist_nil.mp hs) h
  | z :: t, [], _, h, _ => absurd rfl h
  | z :: t, y :: S, I, _, _ => by
    unfold rkF
    rw [if_neg (I.t rfl z List.mem_cons_self)]
    simp only [if_true]
    have p2 : 0 < 2 ^ freeN L t := Nat.two_pow_pos _
    split <;> omega
theorem sub_of_ne {z y : α} {t S : List α} (h : (y :: S).Sublist (z :: t)) (ne : y ≠ z) : (y :: S).Sublist t := by
  cases h with
  | cons _ h => exact h
  | cons_cons _ h => exact absurd rfl ne
theorem rkF_at {L : List α} {w : α} : ∀ {hs S : List α} {e : Bool}, InvF lt L w hs e → S.Sublist hs → (∀ z ∈ hs, z ∈ L → z ∈ S) → rkF L w hs e S < 2 ^ freeN L hs ∧ atF L w hs e (rkF L w hs e S) = S
  | [], S, e, _, hs, _ => by
    rw [List.sublist_nil.mp hs]
    exact ⟨by simp [rkF, freeN], rfl⟩
  | z :: t, S, e, I, hs, hm => by
    have nt : ∀ y ∈ t, y ≠ z := fun y hy q => by
      have := (List.pairwise_cons.mp I.pw).1 y hy
      rw [q] at this
      exact I.ir _ this
    by_cases hz : z ∈ L
    · obtain ⟨S', rfl, hs'⟩ : ∃ S', S = z :: S' ∧ S'.Sublist t := by
        have q := hm z List.mem_cons_self hz
        cases S with
        | nil => cases q
        | cons y S =>
          by_cases e1 : y = z
          · subst e1
            exact ⟨S, rfl, List.cons_sublist_cons.mp hs⟩
          · exact absurd rfl (nt z ((sub_of_ne hs e1).subset q))
      obtain ⟨a1, a2⟩ := rkF_at (I.next_in hz) hs' fun y hy hL => by
        rcases List.mem_cons.mp (hm y (List.mem_cons_of_mem _ hy) hL) with r | r
        · exact absurd r (nt y hy)
        · exact r
      unfold rkF atF
      rw [if_pos hz, if_pos hz, freeN_in hz, List.tail_cons, a2]
      exact ⟨a1, rfl⟩
    · have J := I.next_out hz
      have p2 : 0 < 2 ^ freeN L t := Nat.two_pow_pos _
      have hm' : ∀ y ∈ t, y ∈ L → y ∈ S := fun y hy hL => hm y (List.mem_cons_of_mem _ hy) hL
      cases S with
      | nil =>
        have et : e = true := by
          cases e with
          | true => rfl
          | false => exact nomatch hm w (I.f rfl) I.wL
        subst et
        unfold rkF atF
        rw [if_neg hz, if_neg hz]
        simp [freeN_out hz, Nat.two_pow_pos]
      | cons y S' =>
        by_cases e1 : y = z
        · subst e1
          obtain ⟨a1, a2⟩ := rkF_at J (List.cons_sublist_cons.mp hs) fun x hx hL => by
            rcases List.mem_cons.mp (hm' x hx hL) with r | r
            · exact absurd r (nt x hx)
            · exact r
          have p1 : (if e then 1 else 0) ≤ 1 := by split <;> omega
          unfold rkF atF
          rw [if_neg hz, if_neg hz]
          simp only [if_true]
          rw [freeN_out hz, Nat.pow_succ]
          generalize hen : (if e = true then 1 else 0) = en at *
          refine ⟨by omega, ?_⟩
          rw [if_neg (by omega), if_pos (by omega), Nat.add_sub_cancel_left, a2]
        · have hs' := sub_of_ne hs e1
          obtain ⟨a1, a2⟩ := rkF_at J hs' hm'
          have a3 : (if e then 1 else 0) ≤ rkF L w t e (y :: S') := by
            cases e with
            | false => exact Nat.zero_le _
            | true => exact rkF_one J (List.cons_ne_nil _ _) hs'
          unfold rkF atF
          rw [if_neg hz, if_neg hz]
          simp only [if_neg e1]
          rw [freeN_out hz, Nat.pow_succ]
          generalize hen : (if e = true then 1 else 0) = en at *
          refine ⟨by omega, ?_⟩
          rw [if_neg (by omega), if_neg (by omega), Nat.add_sub_cancel_left, a2]
/-- the number, gone through by the free ones alone -/
def nmF (F : List α) (gt : α → Bool) (lo : α → Bool) : List α → Nat
  | [] => 0
  | z :: t => (if z ∈ F ∧ gt z = true then 1 else 0) + (if z ∉ F ∧ lo z = true then 2 ^ t.length else 0) + nmF F gt lo t
theorem rkF_nil {L : List α} {w : α} : ∀ {hs : List α}, InvF lt L w hs true → rkF L w hs true [] = 0
  | [], _ => rfl
  | z :: t, I => by
    unfold rkF
    rw [if_neg (I.t rfl z List.mem_cons_self)]
theorem rkF_nm {L F : List α} {w : α} {gt lo : α → Bool} : ∀ {hs S : List α} {e : Bool}, InvF lt L w hs e → S.Sublist hs → (∀ z ∈ hs, z ∈ L → z ∈ S) → (∀ z ∈ hs, (z ∈ F ↔ z ∈ S)) →
    (∀ z ∈ hs, z ∉ L → (gt z = true ↔ lt w z)) → (∀ z ∈ hs, z ∉ L → z ∉ F → (lo z = true ↔ ∃ y ∈ S, lt z y)) → (∀ x, x ∉ hs → e = true → x = w → ∀ z ∈ hs, lt w z) → (∀ x y, lt x y → ¬ lt y x) → rkF L w hs e S = nmF F gt lo (hs.filter fun z => decide (z ∉ L))
  | [], S, e, _, _, _, _, _, _, _, _ => rfl
  | z :: t, S, e, I, hs, hm, hF, hg, hl, hw, as => by
    have pz := List.pairwise_cons.mp I.pw
    have nt : ∀ y ∈ t, y ≠ z := fun y hy q => by
      have := pz.1 y hy
      rw [q] at this
      exact I.ir _ this
    by_cases hz : z ∈ L
    · obtain ⟨S', rfl, hs'⟩ : ∃ S', S = z :: S' ∧ S'.Sublist t := by
        have q := hm z List.mem_cons_self hz
        cases S with
        | nil => cases q
        | cons y S =>
          by_cases e1 : y = z
          · subst e1
            exact ⟨S, rfl, List.cons_sublist_cons.mp hs⟩
          · exact absurd rfl (nt z ((sub_of_ne hs e1).subset q))
      have mm : ∀ y ∈ t, (y ∈ z :: S' ↔ y ∈ S') := fun y hy => ⟨fun h => by
        rcases List.mem_cons.mp h with r | r
        · exact absurd r (nt y hy)
        · exact r, fun h => List.mem_cons_of_mem _ h⟩
      have ih := rkF_nm (F := F) (gt := gt) (lo := lo) (I.next_in hz) hs' (fun y hy hL => (mm y hy).mp (hm y (List.mem_cons_of_mem _ hy) hL)) (fun y hy => (hF y (List.mem_cons_of_mem _ hy)).trans (mm y hy))
        (fun y hy => hg y (List.mem_cons_of_mem _ hy)) (fun y hy a b => (hl y (List.mem_cons_of_mem _ hy) a b).trans ⟨fun ⟨x, hx, q⟩ => by
          rcases List.mem_cons.mp hx with r | r
          · rw [r] at q
            exact absurd q (as _ _ (pz.1 y hy))
          · exact ⟨x, r, q⟩, fun ⟨x, hx, q⟩ => ⟨x, List.mem_cons_of_mem _ hx, q⟩⟩)
        (fun x _ q xw y hy => by
          cases e with
          | true => exact absurd hz (I.t rfl z List.mem_cons_self)
          | false =>
            have q2 : z = w := by simpa using q
            rw [← q2]
            exact pz.1 y hy) as
      rw [List.filter_cons_of_neg (by simpa using hz)]
      unfold rkF
      rw [if_pos hz, List.tail_cons, ih]
    · have J := I.next_out hz
      rw [List.filter_cons_of_pos (by simpa using hz)]
      have hlen : (t.filter fun z => decide (z ∉ L)).length = freeN L t := rfl
      have gte : gt z = e := by
        cases e with
        | true =>
          have wn : w ∉ z :: t := fun h => I.t rfl w h I.wL
          exact (hg z List.mem_cons_self hz).mpr (hw w wn rfl rfl z List.mem_cons_self)
        | false =>
          have wt := J.f rfl
          have zw := pz.1 w wt
          cases h : gt z with
          | false => rfl
          | true => exact absurd ((hg z List.mem_cons_self hz).mp h) (as _ _ zw)
      have hw' : ∀ x, x ∉ t → e = true → x = w → ∀ y ∈ t, lt w y := fun x _ q xw y hy => by
        have wn : w ∉ z :: t := fun h => I.t q w h I.wL
        exact hw w wn q rfl y (List.mem_cons_of_mem _ hy)
      have zF := hF z List.mem_cons_self
      cases S with
      | nil =>
        have et : e = true := by
          cases e with
          | true => rfl
          | false => exact nomatch hm w (I.f rfl) I.wL
        subst et
        have ih := rkF_nm (F := F) (gt := gt) (lo := lo) J (List.nil_sublist _) (fun y hy hL => hm y (List.mem_cons_of_mem _ hy) hL) (fun y hy => hF y (List.mem_cons_of_mem _ hy)) (fun y hy => hg y (List.mem_cons_of_mem _ hy)) (fun y hy => hl y (List.mem_cons_of_mem _ hy)) hw' as
        rw [rkF_nil J] at ih
        have zn : z ∉ F := fun h => nomatch zF.mp h
        have lz : ¬ lo z = true := fun h => by
          obtain ⟨y, hy, _⟩ := (hl z List.mem_cons_self hz zn).mp h
          cases hy
        rw [rkF_nil I]
        unfold nmF
        rw [if_neg (fun h => zn h.1), if_neg (fun h => lz h.2), ← ih]
      | cons y S' =>
        by_cases e1 : y = z
        · subst e1
          have hs' := List.cons_sublist_cons.mp hs
          have mm : ∀ x ∈ t, (x ∈ y :: S' ↔ x ∈ S') := fun x hx => ⟨fun h => by
            rcases List.mem_cons.mp h with r | r
            · exact absurd r (nt x hx)
            · exact r, fun h => List.mem_cons_of_mem _ h⟩
          have ih := rkF_nm (F := F) (gt := gt) (lo := lo) J hs' (fun x hx hL => (mm x hx).mp (hm x (List.mem_cons_of_mem _ hx) hL)) (fun x hx => (hF x (List.mem_cons_of_mem _ hx)).trans (mm x hx)) (fun x hx => hg x (List.mem_cons_of_mem _ hx))
            (fun x hx a b => (hl x (List.mem_cons_of_mem _ hx) a b).trans ⟨fun ⟨v, hv, q⟩ => by
              rcases List.mem_cons.mp hv with r | r
              · rw [r] at q
                exact absurd q (as _ _ (pz.1 x hx))
              · exact ⟨v, r, q⟩, fun ⟨v, hv, q⟩ => ⟨v, List.mem_cons_of_mem _ hv, q⟩⟩) hw' as
          have zy : y ∈ F := zF.mpr List.mem_cons_self
          unfold rkF nmF
          rw [if_neg hz]
          simp only [if_true]
          rw [if_neg (c := y ∉ F ∧ lo y = true) (fun h => h.1 zy), ih, gte]
          cases e <;> simp [zy]
        · have hs' := sub_of_ne hs e1
          have ih := rkF_nm (F := F) (gt := gt) (lo := lo) J hs' (fun x hx hL => hm x (List.mem_cons_of_mem _ hx) hL) (fun x hx => hF x (List.mem_cons_of_mem _ hx)) (fun x hx => hg x (List.mem_cons_of_mem _ hx)) (fun x hx => hl x (List.mem_cons_of_mem _ hx)) hw' as
          have yt : y ∈ t := hs'.subset List.mem_cons_self
          have zn : z ∉ F := fun h => nt z (hs'.subset (zF.mp h)) rfl
          have lz : lo z = true := (hl z List.mem_cons_self hz zn).mpr ⟨y, List.mem_cons_self, pz.1 y yt⟩
          unfold rkF nmF
          rw [if_neg hz]
          simp only [if_neg e1]
          rw [if_neg (fun h => zn h.1), if_pos ⟨zn, lz⟩, ih, hlen, Nat.zero_add]
end
theorem rowLt_strs : ∀ xs ys : List Str, rowLt (xs.map PyData.str) (ys.map PyData.str) = true ↔ lexL ltS xs ys
  | [], [] => by
    have e : rowLt [] [] = false := lex_irrefl _
    simp [e, lexL]
  | [], y :: ys => by
    have e : rowLt [] (PyData.str y :: ys.map .str) = true := by
      unfold rowLt
      rw [toks_all_cons]
      simp only [keyToksAll]
      rw [lex_diff (O := itemOrd) (by simp)]
      rfl
    simpa [lexL] using e
  | x :: xs, [] => by
    have e : rowLt (PyData.str x :: xs.map .str) [] = false := by
      unfold rowLt
      rw [toks_all_cons]
      simp only [keyToksAll]
      rw [lex_diff (O := itemOrd) (by simp)]
      rfl
    simp [e, lexL]
  | x :: xs, y :: ys => by
    have e : rowLt (PyData.str x :: xs.map .str) (PyData.str y :: ys.map .str) = if x = y then rowLt (xs.map .str) (ys.map .str) else decide (x.cps.toList < y.cps.toList) := by
      unfold rowLt
      rw [dataLt_cons (by simp [alike]), dataLt_str]
      simp only [PyData.eqv, beq_iff_eq]
    show rowLt (PyData.str x :: xs.map .str) (PyData.str y :: ys.map .str) = true ↔ _
    rw [e]
    unfold lexL
    by_cases h : x = y
    · rw [if_pos h, rowLt_strs xs ys]
      subst h
      exact ⟨fun q => .inr ⟨rfl, q⟩, fun q => q.elim (fun q => absurd q (List.lt_irrefl _)) (·.2)⟩
    · rw [if_neg h, decide_eq_true_iff]
      exact ⟨.inl, fun q => q.elim id fun q => absurd q.1 h⟩
theorem ltD_strs (xs ys : List Str) : dataLt (.list (xs.map PyData.str)) (.list (ys.map PyData.str)) = true ↔ lexL ltS xs ys := by
  rw [dataLt_list]
  exact rowLt_strs xs ys
end G1

set_option maxHeartbeats 4000000
namespace K24
open PySem PySem.Spec PyProof.Rows L2 G1 PySem.W
/-! Rows in their order, the first of a row, the cards: no program here. -/
theorem leRow_tot : TotalLe leRow := sortLe_total (listOrd itemOrd) false fun r : List Str => keyToks (rd r)
theorem leRow_lt {a b : List Str} : leRow a b = !dataLt (rd b) (rd a) := rfl
theorem ltRow {a b : List Str} : dataLt (rd a) (rd b) = true ↔ lexL ltS a b := ltD_strs a b
theorem lex_not {a b : List Str} (h : lexL ltS a b) : leRow b a = false := by
  rw [leRow_lt, ltRow.mpr h]
  rfl
theorem lex_le {a b : List Str} (h : lexL ltS a b) : leRow a b = true := by
  rcases leRow_tot.total a b with q | q
  · exact q
  · rw [lex_not h] at q
    cases q
theorem lex_irr {a : List Str} : ¬ lexL ltS a a := fun h => by
  have q := lex_not h
  rcases leRow_tot.total a a with z | z <;> rw [q] at z <;> cases z
theorem lex_asym {a b : List Str} (h : lexL ltS a b) : ¬ lexL ltS b a := fun g => by
  have q := lex_le h
  rw [lex_not g] at q
  cases q
theorem lex_nodup {m : List (List Str)} (s : m.Pairwise (lexL ltS)) : m.Nodup := s.imp fun {a b} h (e : a = b) => by
  subst e
  exact lex_irr h
theorem sortR_uniq {l m : List (List Str)} (p : l.Perm m) (s : m.Pairwise (lexL ltS)) : sortR l = m := by
  refine (sortR_perm.trans p).eq_of_pairwise (le := fun a b => leRow a b = true) (fun a b ha hb h1 h2 => ?_) (List.pairwise_mergeSort leRow_tot.trans (fun a b => by rcases leRow_tot.total a b with q | q <;> rw [q] <;> simp) l) (s.imp fun h => lex_le h)
  have am : a ∈ m := (sortR_perm.trans p).mem_iff.mp ha
  obtain ⟨i, hi, rfl⟩ := List.mem_iff_getElem.mp am
  obtain ⟨j, hj, rfl⟩ := List.mem_iff_getElem.mp hb
  rcases Nat.lt_trichotomy i j with q | q | q
  · have := lex_not (List.pairwise_iff_getElem.mp s i j hi hj q)
    rw [this] at h2
    cases h2
  · subst q
    rfl
  · have := lex_not (List.pairwise_iff_getElem.mp s j i hj hi q)
    rw [this] at h1
    cases h1
theorem subs_nodup : ∀ {xs : List Str} {acc : List (List Str)}, acc.Nodup → (∀ l ∈ acc, ∀ x ∈ xs, x ∉ l) → xs.Nodup → (xs.foldl subsS acc).Nodup
  | [], _, h, _, _ => h
  | x :: xs, acc, h, no, nd => by
    obtain ⟨n1, n2⟩ := List.nodup_cons.mp nd
    refine subs_nodup (xs := xs) (acc := subsS acc x) ?_ (fun l hl y hy hm => ?_) n2
    · unfold subsS
      refine List.nodup_append.mpr ⟨h, ?_, fun a ha b hb e => ?_⟩
      · refine List.pairwise_map.mpr (h.imp fun ne e => ne (List.append_cancel_right e))
      · obtain ⟨c, _, rfl⟩ := List.mem_map.mp hb
        exact no a ha x (.head _) (by rw [e]; exact List.mem_append.mpr (.inr (.head _)))
    · unfold subsS at hl
      rcases List.mem_append.mp hl with hl | hl
      · exact no l hl y (.tail _ hy) hm
      · obtain ⟨c, hc, rfl⟩ := List.mem_map.mp hl
        rcases List.mem_append.mp hm with hm | hm
        · exact no c hc y (.tail _ hy) hm
        · rw [List.mem_singleton.mp hm] at hy
          exact n1 hy
theorem flds_nodup {xs : List Str} (nd : xs.Nodup) : ((subs xs).drop 1).Nodup :=
  (subs_nodup (List.pairwise_singleton _ _) (fun l hl x _ h => by rw [List.mem_singleton.mp hl] at h; cases h) nd).sublist (List.drop_sublist 1 _)
/-- the cards on a field, in order -/
def cardsL (xs : List Str) (rs : List (List Str)) (fs : List Str) : List Str := xs.filter fun z => decide (z ∈ cdsOf fs rs)
theorem cards_eq {H : Hp} {f : Addr} {xs fs ys : List Str} {rs : List (List Str)} (w : Rw xs rs) (fa : FieldAt H f xs fs) (so : sortedS ys = true) (nd : ys.Nodup) (mem : ∀ z, z ∈ ys ↔ z ∈ rs.map (fstD fs)) : ys = cardsL xs rs fs := by
  refine sorted_ext so (sorted_filter w.so) nd (w.nd.sublist List.filter_sublist) fun z => ?_
  unfold cardsL
  rw [mem, mem_fstD2 (fun r hr => fa.fst (w.pr r hr)), List.mem_filter, decide_eq_true_iff]
  refine ⟨fun h => ⟨?_, h⟩, fun h => h.2⟩
  obtain ⟨r, hr, e⟩ := mem_cds.mp h
  exact (w.pr r hr).mem_iff.mp (List.mem_of_find?_eq_some e)
theorem fst_app {gs r : List Str} {y : Str} (h : fst? gs r = some y) : y ∈ gs ∧ ∃ as bs, r = as ++ y :: bs ∧ (∀ a ∈ as, a ∉ gs) := by
  obtain ⟨h1, as, bs, e, h2⟩ := List.find?_eq_some_iff_append.mp h
  exact ⟨of_decide_eq_true h1, as, bs, e, fun a ha q => by
    have := h2 a ha
    rw [decide_eq_true q] at this
    cases this⟩
theorem fst_of {gs as bs : List Str} {y : Str} (h : y ∈ gs) (no : ∀ a ∈ as, a ∉ gs) : fst? gs (as ++ y :: bs) = some y :=
  List.find?_eq_some_iff_append.mpr ⟨decide_eq_true h, as, bs, rfl, fun a ha => by rw [decide_eq_false (no a ha)]; rfl⟩
theorem fst_le {gs r : List Str} {y z : Str} (h : fst? gs r = some y) (hz : z ∈ gs) (hr : z ∈ r) (ne : y ≠ z) : y ∈ r.take (r.idxOf z) := by
  obtain ⟨hy, as, bs, rfl, no⟩ := fst_app h
  have za : z ∉ as := fun q => no z q hz
  have n : (y == z) = false := beq_eq_false_iff_ne.mpr ne
  have e0 : List.idxOf z (y :: bs) = bs.idxOf z + 1 := by
    rw [List.idxOf_cons, n]
    rfl
  rw [List.idxOf_append, if_neg za, e0, List.take_append]
  refine List.mem_append.mpr (.inr ?_)
  rw [show bs.idxOf z + 1 + as.length - as.length = bs.idxOf z + 1 by omega, List.take_succ_cons]
  exact List.mem_cons_self
theorem fst_none_ahead {gs r : List Str} {y u : Str} (h : fst? gs r = some y) (hu : u ∈ gs) : u ∉ r.take (r.idxOf y) := fun q => by
  obtain ⟨hy, as, bs, rfl, no⟩ := fst_app h
  rw [idx_app (fun q => no y q hy), List.take_left] at q
  exact no u q hu
theorem fst_ex {gs r xs : List Str} (pr : r.Perm xs) (h : ∃ z ∈ gs, z ∈ xs) : ∃ y, fst? gs r = some y := by
  obtain ⟨z, hz, hx⟩ := h
  cases e : fst? gs r with
  | some y => exact ⟨y, rfl⟩
  | none => exact absurd (decide_eq_true hz) (List.find?_eq_none.mp e z (pr.mem_iff.mpr hx))
theorem fst_down {fs gs r : List Str} {y : Str} (sub : ∀ z ∈ fs, z ∈ gs) (h : fst? gs r = some y) (hy : y ∈ fs) : fst? fs r = some y := by
  obtain ⟨_, as, bs, rfl, no⟩ := fst_app h
  exact fst_of hy fun a ha q => no a ha (sub a q)
theorem mem_cardsL {xs fs : List Str} {rs : List (List Str)} {z : Str} (pr : ∀ r ∈ rs, r.Perm xs) : z ∈ cardsL xs rs fs ↔ ∃ r ∈ rs, fst? fs r = some z := by
  unfold cardsL
  rw [List.mem_filter, decide_eq_true_iff, mem_cds]
  refine ⟨fun h => h.2, fun h => ⟨?_, h⟩⟩
  obtain ⟨r, hr, e⟩ := h
  exact (pr r hr).mem_iff.mp (List.mem_of_find?_eq_some e)
theorem cards_in {xs fs : List Str} {rs : List (List Str)} (pr : ∀ r ∈ rs, r.Perm xs) {z : Str} (h : z ∈ cardsL xs rs fs) : z ∈ fs := by
  obtain ⟨r, _, e⟩ := (mem_cardsL pr).mp h
  exact (fst_app e).1
theorem cards_same {xs fs gs : List Str} {rs : List (List Str)} (pr : ∀ r ∈ rs, r.Perm xs) (h : ∀ r ∈ rs, fst? fs r = fst? gs r) : cardsL xs rs fs = cardsL xs rs gs := by
  unfold cardsL
  refine List.filter_congr fun z _ => ?_
  rw [decide_eq_decide, mem_cds, mem_cds]
  exact ⟨fun ⟨r, hr, e⟩ => ⟨r, hr, by rw [← h r hr]; exact e⟩, fun ⟨r, hr, e⟩ => ⟨r, hr, by rw [h r hr]; exact e⟩⟩
theorem lc_eq {xs fs ys : List Str} {rs : List (List Str)} (pr : ∀ r ∈ rs, r.Perm xs) (sx : sortedS xs = true) (nx : xs.Nodup) (so : sortedS ys = true) (nd : ys.Nodup) (mem : ∀ z, z ∈ ys ↔ z ∈ cdsOf fs rs) : ys = cardsL xs rs fs := by
  refine sorted_ext so (sorted_filter sx) nd (nx.sublist List.filter_sublist) fun z => ?_
  rw [mem]
  exact mem_cds.trans (mem_cardsL pr).symm
theorem eqW_strs {K : PySem.W.Frag} {H : Hp} {a c : Addr} {xs ys : List Str} {Q : VK} (ha : H a = some (.lst (xs.map V.str))) (hc : H c = some (.lst (ys.map V.str))) (k : Q (.bl (decide (xs = ys))) H) : rEqW K 0 (.ref a) (.ref c) H Q := ⟨_, lists_strs (SqL.of ha) (SqL.of hc), k⟩
theorem neW_strs {K : PySem.W.Frag} {H : Hp} {a c : Addr} {xs ys : List Str} {Q : VK} (ha : H a = some (.lst (xs.map V.str))) (hc : H c = some (.lst (ys.map V.str))) (k : Q (.bl (!decide (xs = ys))) H) : rNeW K 0 (.ref a) (.ref c) H Q := ⟨_, lists_strs (SqL.of ha) (SqL.of hc), k⟩
theorem ixr {K : PySem.W.Frag} {H : Hp} {L c : Addr} {as : List Addr} {j : Nat} {Q : VK} (hL : H L = some (.lst (as.map V.ref))) (hj : as[j]? = some c) (k : Q (.ref c) H) : rIxL K (.ref L) (.int (j : Int)) H Q :=
  ⟨L, _, (j : Int), .ref c, rfl, rfl, SqL.of hL, atI_nat (by rw [List.getElem?_map, hj]; rfl), k⟩
end K24

set_option maxHeartbeats 8000000
namespace K24
open PySem PySem.Spec PyProof.Rows L2 G1
/-! ### a told field is one that is due -/
theorem least_mem : ∀ {ys acc : List Nat} {m : Nat}, m ∈ ys.foldl leastS acc → m ∈ acc ∨ m ∈ ys
  | [], acc, m, h => .inl h
  | y :: ys, acc, m, h => by
    rcases least_mem (ys := ys) (acc := leastS acc y) h with q | q
    · unfold leastS at q
      split at q
      · exact .inl q
      · rcases List.mem_append.mp q with q | q
        · exact .inl q
        · exact .inr (by rw [List.mem_singleton.mp q]; exact List.mem_cons_self)
    · exact .inr (List.mem_cons_of_mem _ q)
section
variable {xs : List Str} {ts : List (List Str)} {z : Str}
/-- each lot is what is ahead of z in a row -/
theorem lots_rows {lots : List (List Str)} (h : LotsOf xs ts z lots) : ∀ l ∈ lots, ∃ t ∈ ts, l = xs.filter fun y => decide (y ∈ t.take (t.idxOf z)) := fun l hl => by
  obtain ⟨zs, ⟨ys, _, _, mem, _, rfl⟩, _, rfl⟩ := h
  obtain ⟨m, hm, rfl⟩ := List.mem_map.mp (sortR_perm.mem_iff.mp hl)
  have q := (least_mem (show m ∈ ys.foldl leastS [] from hm)).resolve_left (fun h => nomatch h)
  obtain ⟨t, ht, rfl⟩ := List.mem_map.mp ((mem m).mp q)
  exact ⟨t, ht, lotM_msk⟩
/-- each row holds a lot -/
theorem rows_lots {lots : List (List Str)} (pt : ∀ t ∈ ts, t.Perm xs) (h : LotsOf xs ts z lots) : ∀ t ∈ ts, ∃ l ∈ lots, ∃ t' ∈ ts, l = (xs.filter fun y => decide (y ∈ t'.take (t'.idxOf z))) ∧ ∀ y ∈ l, y ∈ t.take (t.idxOf z) := fun t ht => by
  obtain ⟨zs, ⟨ys, _, _, mem, _, rfl⟩, _, rfl⟩ := h
  have a1 : aheadM xs t z ∈ ys := (mem _).mpr (List.mem_map.mpr ⟨t, ht, rfl⟩)
  have a2 : holdB (aheadM xs t z) (leastM ys) = true := by
    rw [holdB_least]
    exact List.any_eq_true.mpr ⟨_, a1, inB_self⟩
  obtain ⟨m, hm, le⟩ := List.any_eq_true.mp a2
  have q := (least_mem (show m ∈ ys.foldl leastS [] from hm)).resolve_left (fun h => nomatch h)
  obtain ⟨t', ht', rfl⟩ := List.mem_map.mp ((mem m).mp q)
  refine ⟨_, sortR_perm.mem_iff.mpr (List.mem_map.mpr ⟨_, hm, rfl⟩), t', ht', lotM_msk, fun y hy => ?_⟩
  have e : lotM xs (aheadM xs t' z) = xs.filter fun y => decide (y ∈ t'.take (t'.idxOf z)) := lotM_msk
  rw [e] at hy
  rw [inB_names fun y hy => (pt t' ht').mem_iff.mp hy] at le
  exact of_decide_eq_true (List.all_eq_true.mp le y (of_decide_eq_true (List.mem_filter.mp hy).2))
end
/-- what the steps of the field keep -/
structure FbI (ps : List Str) (z : Str) (old : List (List Str)) (fd : List Str) : Prop where
  zin : z ∈ fd
  out : ∀ y ∈ fd, y = z ∨ (y ∉ ps ∧ ∃ l ∈ old, y ∈ l)
  nd : fd.Nodup
  meet : ∀ l ∈ old, (∃ y ∈ l, y ∉ ps) → ∃ y ∈ l, y ∈ fd
theorem fbI_step {ps : List Str} {z : Str} {old : List (List Str)} {fd l : List Str} (h : FbI ps z old fd) : FbI ps z (old ++ [l]) (fbS ps fd l) := by
  unfold fbS
  by_cases e : l.any (fun y => decide (y ∈ fd)) = true
  · rw [if_pos e]
    refine ⟨h.zin, fun y hy => (h.out y hy).imp id fun ⟨a, l0, b, c⟩ => ⟨a, l0, List.mem_append.mpr (.inl b), c⟩, h.nd, fun l0 hl q => ?_⟩
    rcases List.mem_append.mp hl with r | r
    · exact h.meet l0 r q
    · rw [List.mem_singleton.mp r]
      obtain ⟨y, hy, hd⟩ := List.any_eq_true.mp e
      exact ⟨y, hy, of_decide_eq_true hd⟩
  · rw [if_neg e]
    have no : ∀ y ∈ l, y ∉ fd := fun y hy q => e (List.any_eq_true.mpr ⟨y, hy, decide_eq_true q⟩)
    cases el : less ps l with
    | nil =>
      have none : ∀ y ∈ l, y ∈ ps := fun y hy => by
        by_cases q : y ∈ ps
        · exact q
        · have : y ∈ less ps l := List.mem_filter.mpr ⟨hy, decide_eq_true q⟩
          rw [el] at this
          cases this
      refine ⟨by simp [h.zin], fun y hy => ?_, by simpa using h.nd, fun l0 hl q => ?_⟩
      · simp at hy
        exact (h.out y hy).imp id fun ⟨a, l0, b, c⟩ => ⟨a, l0, List.mem_append.mpr (.inl b), c⟩
      · rcases List.mem_append.mp hl with r | r
        · obtain ⟨y, a, b⟩ := h.meet l0 r q
          exact ⟨y, a, by simp [b]⟩
        · rw [List.mem_singleton.mp r] at q
          obtain ⟨y, a, b⟩ := q
          exact absurd (none y a) b
    | cons u rest =>
      have mu : u ∈ less ps l := by rw [el]; exact List.mem_cons_self
      obtain ⟨u1, u2⟩ := List.mem_filter.mp mu
      have u3 : u ∉ ps := of_decide_eq_true u2
      have t1 : (u :: rest).take 1 = [u] := rfl
      rw [t1]
      refine ⟨List.mem_append.mpr (.inl h.zin), fun y hy => ?_, ?_, fun l0 hl q => ?_⟩
      · rcases List.mem_append.mp hy with r | r
        · exact (h.out y r).imp id fun ⟨a, l0, b, c⟩ => ⟨a, l0, List.mem_append.mpr (.inl b), c⟩
        · rw [List.mem_singleton.mp r]
          exact .inr ⟨u3, l, List.mem_append.mpr (.inr (List.mem_singleton.mpr rfl)), u1⟩
      · refine List.nodup_append.mpr ⟨h.nd, by simp, fun a ha b hb e => ?_⟩
        rw [List.mem_singleton.mp hb] at e
        exact no u u1 (e ▸ ha)
      · rcases List.mem_append.mp hl with r | r
        · obtain ⟨y, a, b⟩ := h.meet l0 r q
          exact ⟨y, a, List.mem_append.mpr (.inl b)⟩
        · rw [List.mem_singleton.mp r]
          exact ⟨u, u1, List.mem_append.mpr (.inr (List.mem_singleton.mpr rfl))⟩
theorem fbI_fold {ps : List Str} {z : Str} : ∀ {lots old : List (List Str)} {fd : List Str}, FbI ps z old fd → FbI ps z (old ++ lots) (lots.foldl (fbS ps) fd)
  | [], old, fd, h => by
    rw [List.append_nil]
    exact h
  | l :: lots, old, fd, h => by
    have q := fbI_fold (lots := lots) (fbI_step (l := l) h)
    rw [List.append_assoc] at q
    exact q
theorem fbI_all {ps : List Str} {z : Str} {lots : List (List Str)} : FbI ps z lots (fbL ps z lots) := by
  have h : FbI ps z [] [z] := ⟨List.mem_singleton.mpr rfl, fun y hy => .inl (List.mem_singleton.mp hy), by simp, fun l hl => nomatch hl⟩
  have q := fbI_fold (lots := lots) h
  rw [List.nil_append] at q
  exact q
section
variable {xs : List Str} {rs ts : List (List Str)} {us : List Str}
theorem part1_card (nd : xs.Nodup) (so : sortedS xs = true) (pr : ∀ r ∈ rs, r.Perm xs) (pt : ∀ t ∈ ts, t.Perm xs) (h : Part1 xs rs ts us) : us.Sublist xs ∧ 1 ≤ us.length ∧ (∃ z, z ∈ cdsOf us rs ∧ z ∉ cdsOf us ts) ∧ us.length ≤ ts.length + 1 := by
  obtain ⟨i, j, r, z, lots, ⟨er, ez, no, _, _⟩, lo, pu, su⟩ := h
  have hr := List.mem_of_getElem? er
  have hz : z ∈ xs := (pr r hr).mem_iff.mp (List.mem_of_getElem? ez)
  have I := fbI_all (ps := r.take (r.idxOf z)) (z := z) (lots := lots)
  obtain ⟨llen, lsub⟩ := lot_len lo
  have mu : ∀ y, y ∈ us ↔ y ∈ fbL (r.take (r.idxOf z)) z lots := fun y => pu.mem_iff
  have sub : ∀ y ∈ us, y ∈ xs := fun y hy => by
    rcases I.out y ((mu y).mp hy) with rfl | ⟨_, l, hl, hyl⟩
    · exact hz
    · exact (lsub l hl).subset hyl
  have ndu : us.Nodup := pu.nodup_iff.mpr I.nd
  have eu : us = xs.filter fun y => decide (y ∈ us) := sorted_ext su (sorted_filter so) ndu (nd.sublist List.filter_sublist) fun y => by
    rw [List.mem_filter, decide_eq_true_iff]
    exact ⟨fun h => ⟨sub y h, h⟩, fun h => h.2⟩
  have zu : z ∈ us := (mu z).mpr I.zin
  refine ⟨by rw [eu]; exact List.filter_sublist, List.length_pos_of_mem zu, ?_, ?_⟩
  · have in1 : z ∈ cdsOf us rs := cds_mem.mpr ⟨r, hr, (fst_iff ((pr r hr).mem_iff.mpr hz) zu).mpr fun y hy q => by
      rcases I.out y ((mu y).mp q) with rfl | ⟨n, _⟩
      · exact take_self hy
      · exact n hy⟩
    refine ⟨z, in1, fun in2 => ?_⟩
    obtain ⟨t, ht, et⟩ := cds_mem.mp in2
    have all := (fst_iff ((pt t ht).mem_iff.mpr hz) zu).mp et
    obtain ⟨l, hl, t', ht', rfl, inc⟩ := rows_lots pt lo t ht
    have nl : ∃ y ∈ xs.filter (fun y => decide (y ∈ t'.take (t'.idxOf z))), y ∉ r.take (r.idxOf z) := by
      refine Classical.byContradiction fun q => ?_
      have : okB xs ts r z = true := (ok_iff pt).mpr ⟨t', ht', fun y hy => by
        refine Classical.byContradiction fun ny => q ⟨y, List.mem_filter.mpr ⟨(pt t' ht').mem_iff.mp (List.mem_of_mem_take hy), decide_eq_true hy⟩, ny⟩⟩
      rw [no] at this
      cases this
    obtain ⟨y, hy, yf⟩ := I.meet _ hl nl
    exact all y (inc y hy) ((mu y).mpr yf)
  · have l1 := fbL_len (ps := r.take (r.idxOf z)) (lots := lots) (fd := [z])
    have l2 := pu.length_eq
    unfold fbL at l2
    rw [List.length_singleton] at l1
    omega
end
/-! ### a final after a first heat -/
def finL (xs : List Str) (rs ts : List (List Str)) (fs : List Str) : List Str := cardsL xs ts (cardsL xs rs fs)
section
variable {xs : List Str} {rs ts : List (List Str)}
/-- where the second is within the first, the final is the second's -/
theorem sift_eq {fs : List Str} (pr : ∀ r ∈ rs, r.Perm xs) (pt : ∀ t ∈ ts, t.Perm xs) (w : withinB xs ts rs = true) (f1 : 0 < fs.length) (fx : ∀ z ∈ fs, z ∈ xs) : finL xs rs ts fs = cardsL xs ts fs := by
  unfold finL
  refine cards_same pt fun t ht => ?_
  obtain ⟨z0, hz0⟩ := List.exists_mem_of_length_pos f1
  obtain ⟨y, hy⟩ := fst_ex (pt t ht) (gs := fs) ⟨z0, hz0, fx z0 hz0⟩
  obtain ⟨yf, as, bs, et, _⟩ := fst_app hy
  have yt : y ∈ t := by rw [et]; exact List.mem_append.mpr (.inr List.mem_cons_self)
  have ok := List.all_eq_true.mp (List.all_eq_true.mp w t ht) y yt
  obtain ⟨r, hr, inc⟩ := (ok_iff pr).mp ok
  have yx := (pt t ht).mem_iff.mp yt
  have er : fst? fs r = some y := by
    have hyr := (pr r hr).mem_iff.mpr yx
    exact (fst_iff hyr yf).mpr fun u hu q => fst_none_ahead hy q (inc u hu)
  rw [hy]
  exact fst_down (fun z hz => cards_in pr hz) hy ((mem_cardsL pr).mpr ⟨r, hr, er⟩)
/-- a field that is told as bad is bad -/
theorem bad_ne {us : List Str} (pr : ∀ r ∈ rs, r.Perm xs) (pt : ∀ t ∈ ts, t.Perm xs) {z : Str} (h1 : z ∈ cdsOf us ts) (h2 : z ∉ cdsOf us rs) : finL xs rs ts us ≠ cardsL xs ts us := fun e => by
  have a : z ∈ cardsL xs ts us := (mem_cardsL pt).mpr (cds_mem.mp h1)
  rw [← e] at a
  obtain ⟨t, ht, et⟩ := (mem_cardsL pt).mp a
  obtain ⟨q, _⟩ := fst_app et
  exact h2 (cds_mem.mpr ((mem_cardsL pr).mp q))
end
end K24

set_option maxHeartbeats 8000000
namespace K24
open PySem PySem.Spec PyProof.Rows L2 G1
theorem any_rd {ps : List (List Str)} {r : List Str} : ((ps.map rd).any fun z => PyData.eqv z (rd r)) = decide (r ∈ ps) := by
  rw [List.any_map]
  refine Bool.eq_iff_iff.mpr ⟨fun h => ?_, fun h => ?_⟩
  · obtain ⟨z, hz, e⟩ := List.any_eq_true.mp h
    have e : PyData.eqv (rd z) (rd r) = true := e
    rw [eqv_rd] at e
    rw [← of_decide_eq_true e]
    exact decide_eq_true hz
  · refine List.any_eq_true.mpr ⟨r, of_decide_eq_true h, ?_⟩
    show PyData.eqv (rd r) (rd r) = true
    rw [eqv_rd]
    exact decide_eq_true rfl
theorem lists_strsG {K : PySem.W.Frag} {H : Hp} {a c : Addr} {xs ys : List Str} (ha : SqL K H a (xs.map V.str)) (hc : SqL K H c (ys.map V.str)) : Lists2 K H 0 (.ref a) (.ref c) (decide (xs = ys)) := by
  refine ⟨a, c, _, _, rfl, rfl, ha, hc, ?_⟩
  by_cases l : xs.length = ys.length
  · refine .inr ⟨by rw [List.length_map, List.length_map]; exact l, fun i => decide (xs[i]? = ys[i]?), fun i x y hx hy => ?_, ?_⟩
    · rw [List.getElem?_map] at hx hy
      obtain ⟨m, hm, rfl⟩ := Option.map_eq_some_iff.mp hx
      obtain ⟨n, hn, rfl⟩ := Option.map_eq_some_iff.mp hy
      have : decide (xs[i]? = ys[i]?) = eqV (.str m) (.str n) := by
        rw [hm, hn]
        show _ = (m == n)
        refine Bool.eq_iff_iff.mpr ⟨fun h => ?_, fun h => ?_⟩
        · have := of_decide_eq_true h
          injection this with this
          rw [this]
          exact beq_self_eq_true _
        · have := eq_of_beq h
          exact decide_eq_true (by rw [this])
      show EqW K H 0 (V.str m) (V.str n) (decide (xs[i]? = ys[i]?))
      rw [this]
      exact .flat rfl rfl
    · refine Bool.eq_iff_iff.mpr ⟨fun h => ?_, fun h => decide_eq_true (List.ext_getElem? fun i => ?_)⟩
      · rw [of_decide_eq_true h]
        exact List.all_eq_true.mpr fun i _ => decide_eq_true rfl
      · by_cases lt : i < xs.length
        · exact of_decide_eq_true (List.all_eq_true.mp h i (List.mem_range.mpr (by rw [List.length_map]; exact lt)))
        · rw [List.getElem?_eq_none (by omega), List.getElem?_eq_none (by omega)]
  · exact .inl ⟨by rw [List.length_map, List.length_map]; exact l, decide_eq_false fun q => l (by rw [q])⟩
/-- a list of anything beside an empty one -/
theorem listsV_nil {K : PySem.W.Frag} {H : Hp} {a c : Addr} {zs : List V} {b : Bool} (ha : SqL K H a zs) (hc : SqL K H c []) (e : b = decide (zs.length = 0)) : Lists2 K H 0 (.ref a) (.ref c) b := by
  refine ⟨a, c, _, _, rfl, rfl, ha, hc, ?_⟩
  subst e
  cases zs with
  | nil => exact .inr ⟨rfl, fun _ => true, (fun i x y h => by cases h), by decide⟩
  | cons z zs => exact .inl ⟨(fun h => by cases h), decide_eq_false fun h => by cases h⟩
theorem filter_take {α : Type} {p : α → Bool} {xs : List α} {i : Nat} {x : α} (h : xs[i]? = some x) : (xs.take (i + 1)).filter p = (xs.take i).filter p ++ (if p x = true then [x] else []) := by
  rw [List.take_succ, h, List.filter_append]
  congr 1
  show List.filter p [x] = _
  rw [List.filter_cons]
  rfl
theorem shaped_row {r : List Str} (h : ∀ z ∈ r, Nm z) : SeqAt.shaped (rd r) = true := (fine_strs h).list.shaped (by decide)
theorem fine_rowsW : ∀ {rs : List (List Str)}, (∀ r ∈ rs, ∀ z ∈ r, Nm z) → ∃ w, FineAll (rs.map rd) 1 w
  | [], _ => ⟨0, .nil 1 0⟩
  | r :: rs, h => by
    obtain ⟨w, e⟩ := fine_rowsW fun r hr => h r (List.mem_cons_of_mem _ hr)
    exact ⟨_, .cons ((fine_strs (h r List.mem_cons_self)).list.mono (by decide) (Nat.le_refl _)) e⟩
theorem shaped_rows {rs : List (List Str)} (h : ∀ r ∈ rs, ∀ z ∈ r, Nm z) : SeqAt.shaped (rsd rs) = true := by
  obtain ⟨w, e⟩ := fine_rowsW h
  exact e.list.shaped (by decide)
def spLeastR (K : PySem.W.Frag) : Sp := fun vs H Q _ => ∃ (a : Addr) (as : List Addr) (rs : List (List Str)), vs = [.ref a] ∧ H a = some (.lst (as.map V.ref)) ∧ RowsAt H as rs ∧ rs.length ≤ 60 ∧ (∀ r ∈ rs, (∀ z ∈ r, Nm z) ∧ r.length ≤ 60) ∧
  ∀ (D : Addr) (ls : List Addr) (ps : List (List Str)) (H' : Hp), Same H H' → H D = none → H' D = some (.lst (ls.map V.ref)) → (∀ m, m ∈ ps ↔ m ∈ rs) → ps.length ≤ rs.length → RowsAt H ls (minR ps) → (∀ c ∈ ls, c ∈ as) → Q (.ref D) H'
section
variable {P : Program} {w : World} {K : PySem.W.Frag} {mg : Str → Option Value} {base : Heap} {C : Addr}
end
end K24

set_option maxHeartbeats 8000000
namespace K24
open PySem PySem.Spec PyProof.Rows L2 G1
open Classical in
/-- the same texts, sorted -/
noncomputable def srt (ys : List Str) : List Str := if h : ∃ p : List Str, sortedS p = true ∧ p.Perm ys then Classical.choose h else []
theorem srt_eq {ys p : List Str} (so : sortedS p = true) (pm : p.Perm ys) : srt ys = p := by
  have h : ∃ p : List Str, sortedS p = true ∧ p.Perm ys := ⟨p, so, pm⟩
  unfold srt
  rw [dif_pos h]
  obtain ⟨h1, h2⟩ := Classical.choose_spec h
  exact sorted_uniq h1 so (h2.trans pm.symm)
/-- those ahead of z in a row, sorted -/
noncomputable def lotR (z : Str) (r : List Str) : List Str := srt (r.take (r.idxOf z))
def spLotsR (K : PySem.W.Frag) : Sp := fun vs H Q _ => ∃ (R : Addr) (as : List Addr) (rs : List (List Str)) (z : Str), vs = [.ref R, .str z] ∧ H R = some (.lst (as.map V.ref)) ∧ RowsAt H as rs ∧ rs.length ≤ 60 ∧ (∀ r ∈ rs, (∀ y ∈ r, Nm y) ∧ r.length ≤ 60 ∧ z ∈ r) ∧
  ∀ (D : Addr) (ls : List Addr) (ps : List (List Str)) (H' : Hp), Same H H' → H D = none → H' D = some (.lst (ls.map V.ref)) → (∀ m, m ∈ ps ↔ m ∈ rs.map (lotR z)) → ps.length ≤ rs.length → RowsAt H' ls (minR ps) → (∀ r ∈ rs, (lotR z r).Perm (r.take (r.idxOf z)) ∧ sortedS (lotR z r) = true) → (∀ c ∈ ls, H c = none) → Q (.ref D) H'
section
variable {P : Program} {w : World} {K : PySem.W.Frag} {mg : Str → Option Value} {base : Heap} {C : Addr}
end
end K24

set_option maxHeartbeats 8000000
namespace K24
open PySem PySem.Spec PyProof.Rows L2 G1
/-- the least lots of one name -/
def LotFam (H : Hp) (c : Addr) (x : Str) (rs : List (List Str)) : Prop := ∃ (ls : List Addr) (ps : List (List Str)), H c = some (.lst (ls.map V.ref)) ∧ RowsAt H ls (minR ps) ∧ (∀ m, m ∈ ps ↔ m ∈ rs.map (lotR x)) ∧ ps.length ≤ rs.length ∧ ∀ r ∈ rs, (lotR x r).Perm (r.take (r.idxOf x)) ∧ sortedS (lotR x r) = true
theorem LotFam.same {H H' : Hp} {c : Addr} {x : Str} {rs : List (List Str)} (h : LotFam H c x rs) (s : Same H H') : LotFam H' c x rs := by
  obtain ⟨ls, ps, h1, h2, h3⟩ := h
  exact ⟨ls, ps, s _ _ h1, h2.same s, h3⟩
theorem paired_snoc {α β : Type} {F : α → β → Prop} : ∀ {as : List α} {bs : List β} {a : α} {b : β}, Paired F as bs → F a b → Paired F (as ++ [a]) (bs ++ [b])
  | _, _, _, _, .nil, h => .cons h .nil
  | _, _, _, _, .cons p t, h => .cons p (paired_snoc t h)
theorem dN_keys {xs : List Str} {f : Str → V} : (dN xs f).map (·.1) = xs.map fun k => (.inr k : Key) := by
  unfold dN
  rw [List.map_map]
  rfl
theorem dN_merge {xs : List Str} {f : Str → V} (n : xs.Nodup) : mergeK [] (dN xs f) = dN xs f := by
  have q := mergeK_new (more := dN xs f) (acc := []) (by rw [List.nil_append, dN_keys]; exact nd_inr n)
  rw [q, List.nil_append]
def spAllLots (K : PySem.W.Frag) : Sp := fun vs H Q _ => ∃ (n R : Addr) (xs : List Str) (as : List Addr) (rs : List (List Str)), vs = [.ref n, .ref R] ∧ H n = some (.lst (xs.map V.str)) ∧ H R = some (.lst (as.map V.ref)) ∧ RowsAt H as rs ∧ xs.Nodup ∧ xs.length ≤ 40 ∧ rs.length ≤ 60 ∧
  (∀ r ∈ rs, (∀ y ∈ r, Nm y) ∧ r.length ≤ 7 ∧ ∀ x ∈ xs, x ∈ r) ∧
  ∀ (D : Addr) (g : Str → Addr) (H' : Hp), Same H H' → H D = none → H' D = some (.dK (dN xs fun x => .ref (g x))) → (∀ x ∈ xs, LotFam H' (g x) x rs) → Q (.ref D) H'
section
variable {P : Program} {w : World} {K : PySem.W.Frag} {mg : Str → Option Value} {base : Heap} {C : Addr}
end
end K24

set_option maxHeartbeats 8000000
namespace K24
open PySem PySem.Spec PyProof.Rows L2 G1
theorem part_perm {a b c : List Str} (p : a.Perm b) : partB a c = partB b c := by
  refine Bool.eq_iff_iff.mpr ⟨fun h => ?_, fun h => ?_⟩
  · exact List.all_eq_true.mpr fun x hx => decide_eq_true (part_mem h x (p.mem_iff.mpr hx))
  · exact List.all_eq_true.mpr fun x hx => decide_eq_true (part_mem h x (p.mem_iff.mp hx))
/-- a name is let in a row just when one of its least lots is a part of those ahead of it -/
theorem fam_ok {xs : List Str} {ts ps : List (List Str)} {z : Str} (ndx : xs.Nodup) (pr : ∀ t ∈ ts, t.Perm xs) (mem : ∀ m, m ∈ ps ↔ m ∈ ts.map (lotR z)) (ok : ∀ t ∈ ts, (lotR z t).Perm (t.take (t.idxOf z)) ∧ sortedS (lotR z t) = true) (r : List Str) :
    ((minR ps).any fun l => partB l (r.take (r.idxOf z))) = okB xs ts r z := by
  have one : ∀ t ∈ ts, inB (aheadM xs t z) (aheadM xs r z) = partB (lotR z t) (r.take (r.idxOf z)) := fun t ht => by
    rw [inB_names fun y hy => (pr t ht).mem_iff.mp hy, part_perm (ok t ht).1]
    rfl
  refine Bool.eq_iff_iff.mpr ⟨fun h => ?_, fun h => ?_⟩
  · obtain ⟨l, hl, e⟩ := List.any_eq_true.mp h
    obtain ⟨t, ht, rfl⟩ := List.mem_map.mp ((mem l).mp (List.mem_filter.mp hl).1)
    exact List.any_eq_true.mpr ⟨t, ht, by rw [one t ht]; exact e⟩
  · obtain ⟨t, ht, e⟩ := List.any_eq_true.mp h
    rw [one t ht] at e
    obtain ⟨o, ho, q⟩ := minR_ex (ps := ps) (fun u hu => by
      obtain ⟨t, ht, rfl⟩ := List.mem_map.mp ((mem u).mp hu)
      refine ⟨(ok t ht).1.nodup_iff.mpr (((pr t ht).nodup_iff.mpr ndx).sublist (List.take_sublist _ _)), (ok t ht).2⟩) ((lotR z t).length + 1) (lotR z t) ((mem _).mpr (List.mem_map.mpr ⟨t, ht, rfl⟩)) (Nat.lt_succ_self _)
    exact List.any_eq_true.mpr ⟨o, ho, part_trans q e⟩
end K24

set_option maxHeartbeats 4000000
namespace K24
open PySem PySem.Spec PyProof.Rows L2 G1
/-! alike panels: no program here -/
section
variable {xs : List Str} {rs ts us : List (List Str)}
theorem within_iff : withinB xs rs ts = true ↔ ∀ r ∈ rs, ∀ z ∈ r, okB xs ts r z = true := by
  unfold withinB
  rw [List.all_eq_true]
  exact ⟨fun h r hr => List.all_eq_true.mp (h r hr), fun h r hr => List.all_eq_true.mpr (h r hr)⟩
theorem okB_iff {r : List Str} {z : Str} : okB xs ts r z = true ↔ ∃ t ∈ ts, inB (aheadM xs t z) (aheadM xs r z) = true := by
  unfold okB
  rw [List.any_eq_true]
theorem within_trans (pr : ∀ r ∈ rs, r.Perm xs) (pt : ∀ t ∈ ts, t.Perm xs) (h : withinB xs rs ts = true) (g : withinB xs ts us = true) : withinB xs rs us = true := by
  rw [within_iff] at h g ⊢
  intro r hr z hz
  obtain ⟨t, ht, i1⟩ := okB_iff.mp (h r hr z hz)
  obtain ⟨u, hu, i2⟩ := okB_iff.mp (g t ht z ((pt t ht).mem_iff.mpr ((pr r hr).mem_iff.mp hz)))
  exact okB_iff.mpr ⟨u, hu, inB_trans i2 i1⟩
theorem within_sub (h : ∀ r ∈ rs, r ∈ ts) : withinB xs rs ts = true := by
  rw [within_iff]
  exact fun r hr z hz => okB_iff.mpr ⟨r, h r hr, inB_self⟩
theorem within_app : withinB xs (rs ++ ts) us = (withinB xs rs us && withinB xs ts us) := by
  unfold withinB
  rw [List.all_append]
theorem within_mem (h : ∀ r ∈ rs, r ∈ ts) (g : withinB xs ts us = true) : withinB xs rs us = true := by
  rw [within_iff] at g ⊢
  exact fun r hr => g r (h r hr)
theorem part_perm2 {a b c : List Str} (p : b.Perm c) : partB a b = partB a c := by
  refine Bool.eq_iff_iff.mpr ⟨fun h => ?_, fun h => ?_⟩
  · exact List.all_eq_true.mpr fun x hx => decide_eq_true (p.mem_iff.mp (part_mem h x hx))
  · exact List.all_eq_true.mpr fun x hx => decide_eq_true (p.mem_iff.mpr (part_mem h x hx))
/-- the law's own look: each least lot holds one of the others' -/
theorem lots_within (nd : xs.Nodup) (pr : ∀ r ∈ rs, r.Perm xs) (pt : ∀ t ∈ ts, t.Perm xs) {z : Str} (hz : z ∈ xs) {ps qs : List (List Str)} (m1 : ∀ m, m ∈ ps ↔ m ∈ rs.map (lotR z)) (o1 : ∀ r ∈ rs, (lotR z r).Perm (r.take (r.idxOf z)) ∧ sortedS (lotR z r) = true)
    (m2 : ∀ m, m ∈ qs ↔ m ∈ ts.map (lotR z)) (o2 : ∀ t ∈ ts, (lotR z t).Perm (t.take (t.idxOf z)) ∧ sortedS (lotR z t) = true) : (∀ l ∈ minR ps, (minR qs).any (fun o => partB o l) = true) ↔ ∀ r ∈ rs, okB xs ts r z = true := by
  have key : ∀ r ∈ rs, (minR qs).any (fun o => partB o (lotR z r)) = okB xs ts r z := fun r hr => by
    rw [← fam_ok nd pt m2 o2 r]
    congr 1
    funext o
    exact part_perm2 (o1 r hr).1
  constructor
  · intro h r hr
    obtain ⟨l, hl, e⟩ := minR_ex (ps := ps) (fun u hu => by
      obtain ⟨t, ht, rfl⟩ := List.mem_map.mp ((m1 u).mp hu)
      exact ⟨(o1 t ht).1.nodup_iff.mpr (((pr t ht).nodup_iff.mpr nd).sublist (List.take_sublist _ _)), (o1 t ht).2⟩) ((lotR z r).length + 1) (lotR z r) ((m1 _).mpr (List.mem_map.mpr ⟨r, hr, rfl⟩)) (Nat.lt_succ_self _)
    rw [← key r hr]
    obtain ⟨o, ho, q⟩ := List.any_eq_true.mp (h l hl)
    exact List.any_eq_true.mpr ⟨o, ho, part_trans q e⟩
  · intro h l hl
    obtain ⟨r, hr, rfl⟩ := List.mem_map.mp ((m1 l).mp (List.mem_filter.mp hl).1)
    rw [key r hr]
    exact h r hr
theorem lots_bad (nd : xs.Nodup) (pr : ∀ r ∈ rs, r.Perm xs) (pt : ∀ t ∈ ts, t.Perm xs) {z : Str} (hz : z ∈ xs) {ps qs : List (List Str)} (m1 : ∀ m, m ∈ ps ↔ m ∈ rs.map (lotR z)) (o1 : ∀ r ∈ rs, (lotR z r).Perm (r.take (r.idxOf z)) ∧ sortedS (lotR z r) = true)
    (m2 : ∀ m, m ∈ qs ↔ m ∈ ts.map (lotR z)) (o2 : ∀ t ∈ ts, (lotR z t).Perm (t.take (t.idxOf z)) ∧ sortedS (lotR z t) = true) {l : List Str} (hl : l ∈ minR ps) (h : (minR qs).any (fun o => partB o l) = false) : withinB xs rs ts = false := by
  cases e : withinB xs rs ts with
  | false => rfl
  | true =>
    have := (lots_within nd pr pt hz m1 o1 m2 o2).mpr (fun r hr => within_iff.mp e r hr z ((pr r hr).mem_iff.mpr hz)) l hl
    rw [h] at this
    cases this
end
end K24

set_option maxHeartbeats 8000000
namespace K24
open PySem PySem.Spec PyProof.Rows L2 G1
theorem lists_none {K : PySem.W.Frag} {H : Hp} {a b : Addr} {vs : List V} {n : Nat} (ha : H a = some (.lst vs)) (hb : H b = some (.lst [])) : Lists2 K H n (.ref a) (.ref b) (decide (vs = [])) := by
  refine ⟨a, b, vs, [], rfl, rfl, SqL.of ha, SqL.of hb, ?_⟩
  cases vs with
  | nil => exact .inr ⟨rfl, fun _ => true, (fun i x y e => by simp at e), by simp⟩
  | cons v vs => exact .inl ⟨by simp, by simp⟩
def spBadL (K : PySem.W.Frag) : Sp := fun vs H Q _ => ∃ (n R S : Addr) (as bs : List Addr) (xs : List Str) (rs ts : List (List Str)), vs = [.ref n, .ref R, .ref S] ∧ H n = some (.lst (xs.map V.str)) ∧ H R = some (.lst (as.map V.ref)) ∧ RowsAt H as rs ∧ H S = some (.lst (bs.map V.ref)) ∧ RowsAt H bs ts ∧ Good xs rs ∧ Good xs ts ∧
  (∀ H', Same H H' → withinB xs rs ts = true → Q .non H') ∧
  ∀ (i j : Nat) (r : List Str) (z : Str) (T : Addr) (H' : Hp), Same H H' → rs[i]? = some r → r[j]? = some z → okB xs ts r z = false → (∀ y ∈ r.take j, okB xs ts r y = true) → (∀ q ∈ rs.take i, ∀ y ∈ q, okB xs ts q y = true) → H T = none → H' T = some (.tup [.int (i : Int), .str z]) → Q (.ref T) H'
section
variable {P : Program} {w : World} {K : PySem.W.Frag} {mg : Str → Option Value} {base : Heap} {C : Addr}
end
end K24

set_option maxHeartbeats 8000000
namespace K24
open PySem PySem.Spec PyProof.Rows L2 G1
def spIsW (f : List Str → List (List Str) → List (List Str) → Bool) : Sp := fun vs H Q _ => ∃ (n R S : Addr) (as bs : List Addr) (xs : List Str) (rs ts : List (List Str)), vs = [.ref n, .ref R, .ref S] ∧ H n = some (.lst (xs.map V.str)) ∧ H R = some (.lst (as.map V.ref)) ∧ RowsAt H as rs ∧ H S = some (.lst (bs.map V.ref)) ∧ RowsAt H bs ts ∧ GoodW xs rs ∧ GoodW xs ts ∧ ∀ H', Same H H' → Q (.bl (f xs rs ts)) H'
section
variable {P : Program} {w : World} {K : PySem.W.Frag} {mg : Str → Option Value} {base : Heap} {C : Addr}
end
section
variable {P : Program} {w : World} {K : PySem.W.Frag} {mg : Str → Option Value} {base : Heap} {C : Addr}
end
end K24

set_option maxHeartbeats 8000000
namespace K24
open PySem PySem.Spec PyProof.Rows L2 G1
structure Duo (H : Hp) (C a b : Addr) (xs : List Str) (rs ts : List (List Str)) : Prop where
  pa : PanF H C a xs rs
  pb : PanF H C b xs ts
  ra : Rw xs rs
  rb : Rw xs ts
theorem Duo.same {H H' : Hp} {C a b : Addr} {xs : List Str} {rs ts : List (List Str)} (h : Duo H C a b xs rs ts) (s : Same H H') : Duo H' C a b xs rs ts := ⟨h.pa.same s, h.pb.same s, h.ra, h.rb⟩
theorem cards_field {H : Hp} {D : Addr} {xs fs : List Str} {rs : List (List Str)} (ra : Rw xs rs) (f1 : 0 < fs.length) (fx : ∀ z ∈ fs, z ∈ xs) (h : H D = some (.lst ((cardsL xs rs fs).map V.str))) : FieldAt H D xs (cardsL xs rs fs) := by
  have sub : (cardsL xs rs fs).Sublist xs := List.filter_sublist
  obtain ⟨z0, hz0⟩ := List.exists_mem_of_length_pos f1
  obtain ⟨r, hr⟩ := List.exists_mem_of_length_pos (show 0 < rs.length from ra.r1)
  obtain ⟨y, hy⟩ := fst_ex (ra.pr r hr) (gs := fs) ⟨z0, hz0, fx z0 hz0⟩
  exact ⟨h, lot_subl (sorted_pw ra.so) ra.nd sub, List.length_pos_of_mem ((mem_cardsL ra.pr).mpr ⟨r, hr, hy⟩), by have := sub.length_le; have := ra.le; omega⟩
def spFin (C : Addr) : Sp := fun vs H Q _ => ∃ (a b f : Addr) (xs fs : List Str) (rs ts : List (List Str)), vs = [.ref a, .ref b, .ref f] ∧ Duo H C a b xs rs ts ∧ FieldAt H f xs fs ∧
  ∀ (D : Addr) (H' : Hp), Same H H' → H D = none → H' D = some (.lst ((finL xs rs ts fs).map V.str)) → Q (.ref D) H'
def spMSift (C : Addr) : Sp := fun vs H Q _ => ∃ (a b : Addr) (xs : List Str) (rs ts : List (List Str)), vs = [.ref a, .ref b] ∧ Duo H C a b xs rs ts ∧ ∀ H', Same H H' → Q (.bl (withinB xs ts rs)) H'
/-- what is known of a field that is told as bad -/
structure BadIs (xs : List Str) (rs ts : List (List Str)) (us : List Str) : Prop where
  sub : us.Sublist xs
  l1 : 0 < us.length
  ne : finL xs rs ts us ≠ cardsL xs ts us
  w : withinB xs ts rs = false
  len : us.length ≤ rs.length + 1
  p1 : Part1 xs ts rs us
theorem bad_is {xs us : List Str} {rs ts : List (List Str)} (ra : Rw xs rs) (rb : Rw xs ts) (h : Part1 xs ts rs us) : BadIs xs rs ts us := by
  obtain ⟨h1, h2, ⟨z, z1, z2⟩, h3⟩ := part1_card ra.nd ra.so rb.pr ra.pr h
  exact ⟨h1, h2, bad_ne ra.pr rb.pr z1 z2, part1_not h, h3, h⟩
/-- the answer of bad_field -/
def BadV (H : Hp) (v : V) (xs : List Str) (rs ts : List (List Str)) : Prop := (v = .non ∧ withinB xs ts rs = true) ∨ ∃ (D : Addr) (us : List Str), v = .ref D ∧ H D = some (.lst (us.map V.str)) ∧ BadIs xs rs ts us
theorem BadV.same {H H' : Hp} {v : V} {xs : List Str} {rs ts : List (List Str)} (h : BadV H v xs rs ts) (s : Same H H') : BadV H' v xs rs ts := by
  rcases h with h | ⟨D, us, e, h, q⟩
  · exact .inl h
  · exact .inr ⟨D, us, e, s _ _ h, q⟩
theorem BadV.non {H : Hp} {v : V} {xs : List Str} {rs ts : List (List Str)} (h : BadV H v xs rs ts) : decide (v = .non) = withinB xs ts rs := by
  rcases h with ⟨rfl, w⟩ | ⟨D, us, rfl, _, q⟩
  · rw [w]
    exact decide_eq_true rfl
  · rw [q.w]
    exact decide_eq_false fun e => nomatch e
def spBadF (C : Addr) : Sp := fun vs H Q _ => ∃ (a b : Addr) (xs : List Str) (rs ts : List (List Str)), vs = [.ref a, .ref b] ∧ Duo H C a b xs rs ts ∧ ∀ v H', Same H H' → BadV H' v xs rs ts → (∀ D, v = .ref D → H D = none) → Q v H'
def spIsBad (C : Addr) : Sp := fun vs H Q _ => ∃ (a b f : Addr) (xs fs : List Str) (rs ts : List (List Str)), vs = [.ref a, .ref b, .ref f] ∧ Duo H C a b xs rs ts ∧ FieldAt H f xs fs ∧ ∀ H', Same H H' → Q (.bl (!decide (finL xs rs ts fs = cardsL xs ts fs))) H'
section
variable {P : Program} {w : World} {K : PySem.W.Frag} {mg : Str → Option Value} {base : Heap} {C : Addr}
end
end K24

set_option maxHeartbeats 8000000
namespace K24
open PySem PySem.Spec PyProof.Rows L2 G1
/-! ### trees of heats: a name, or a list of trees -/
/-- a tree of at most so many levels, and its names in their order -/
def TrAt (H : Hp) : Nat → V → List Str → Prop
  | 0, v, ls => ∃ z, v = .str z ∧ ls = [z]
  | d + 1, v, ls => (∃ z, v = .str z ∧ ls = [z]) ∨ ∃ (a : Addr) (vs : List V) (lss : List (List Str)), v = .ref a ∧ H a = some (.lst vs) ∧ 1 ≤ vs.length ∧ vs.length ≤ 60 ∧ lss.length = vs.length ∧ (∀ (i : Nat) (x : V) (l : List Str), vs[i]? = some x → lss[i]? = some l → TrAt H d x l) ∧ ls = lss.flatten
theorem TrAt.same {H H' : Hp} (s : Same H H') : ∀ {d : Nat} {v : V} {ls : List Str}, TrAt H d v ls → TrAt H' d v ls
  | 0, _, _, h => h
  | d + 1, _, _, .inl h => .inl h
  | d + 1, _, _, .inr ⟨a, vs, lss, e, h, l1, l2, l3, f, q⟩ => .inr ⟨a, vs, lss, e, s _ _ h, l1, l2, l3, fun i x l hx hl => TrAt.same s (f i x l hx hl), q⟩
theorem TrAt.leaf {H : Hp} {z : Str} : ∀ {d : Nat}, TrAt H d (.str z) [z]
  | 0 => ⟨z, rfl, rfl⟩
  | _ + 1 => .inl ⟨z, rfl, rfl⟩
theorem flat_in {lss : List (List Str)} {i : Nat} {l : List Str} (h : lss[i]? = some l) : ∀ z ∈ l, z ∈ lss.flatten := fun z hz => List.mem_flatten.mpr ⟨l, List.mem_of_getElem? h, hz⟩
theorem flat_len {lss : List (List Str)} {i : Nat} {l : List Str} (h : lss[i]? = some l) : (lss.take i).flatten.length + l.length ≤ lss.flatten.length ∧ (lss.take (i + 1)).flatten = (lss.take i).flatten ++ l := by
  have e : (lss.take (i + 1)).flatten = (lss.take i).flatten ++ l := by
    rw [List.take_succ, h, List.flatten_append]
    simp
  refine ⟨?_, e⟩
  have q : lss.flatten = (lss.take (i + 1)).flatten ++ (lss.drop (i + 1)).flatten := by rw [← List.flatten_append, List.take_append_drop]
  rw [q, e, List.length_append, List.length_append]
  omega
def spIsTree (d : Nat) : Sp := fun vs H Q _ => ∃ (n : Addr) (v : V) (xs ls : List Str), vs = [.ref n, v] ∧ H n = some (.lst (xs.map V.str)) ∧ TrAt H d v ls ∧ (∀ z ∈ ls, z ∈ xs) ∧ ∀ H', Same H H' → Q (.bl true) H'
def spEntIn (d : Nat) : Sp := fun vs H Q _ => ∃ (v : V) (ls : List Str), vs = [v] ∧ TrAt H d v ls ∧ ls.length ≤ 100 ∧ ∀ (D : Addr) (H' : Hp), Same H H' → H D = none → H' D = some (.lst (ls.map V.str)) → Q (.ref D) H'
theorem sub_ofT {xs fs : List Str} (so : sortedS xs = true) (nd : xs.Nodup) (sf : sortedS fs = true) (nf : fs.Nodup) (h : ∀ z ∈ fs, z ∈ xs) : fs.Sublist xs := by
  have e : fs = xs.filter fun z => decide (z ∈ fs) := sorted_uniq sf (sorted_filter so) ((List.perm_ext_iff_of_nodup nf (nd.sublist List.filter_sublist)).mpr fun z => by
    rw [List.mem_filter, decide_eq_true_iff]
    exact ⟨fun q => ⟨h z q, q⟩, fun q => q.2⟩)
  rw [e]
  exact List.filter_sublist
/-- a tree of names of xs -/
structure TrF (H : Hp) (d : Nat) (v : V) (xs ls : List Str) : Prop where
  tr : TrAt H d v ls
  sub : ∀ z ∈ ls, z ∈ xs
  l1 : 1 ≤ ls.length
  l60 : ls.length ≤ 60
theorem TrF.same {H H' : Hp} {d : Nat} {v : V} {xs ls : List Str} (h : TrF H d v xs ls) (s : Same H H') : TrF H' d v xs ls := ⟨TrAt.same s h.tr, h.sub, h.l1, h.l60⟩
/-- the names of a tree, once each, in order -/
def fldL (xs ls : List Str) : List Str := xs.filter fun z => decide (z ∈ ls)
def spChkT (C : Addr) (d : Nat) : Sp := fun vs H Q _ => ∃ (a : Addr) (v : V) (xs ls : List Str) (rs : List (List Str)), vs = [.ref a, v] ∧ PanF H C a xs rs ∧ TrF H d v xs ls ∧ ∀ H', Same H H' → Q .non H'
def spFieldOf (C : Addr) (d : Nat) : Sp := fun vs H Q _ => ∃ (a : Addr) (v : V) (xs ls : List Str) (rs : List (List Str)), vs = [.ref a, v] ∧ PanF H C a xs rs ∧ Rw xs rs ∧ TrF H d v xs ls ∧
  ∀ (D : Addr) (H' : Hp), Same H H' → H D = none → H' D = some (.lst ((fldL xs ls).map V.str)) → Q (.ref D) H'
def spHeats (C : Addr) (d : Nat) : Sp := fun vs H Q _ => ∃ (a : Addr) (v : V) (xs ls : List Str) (rs : List (List Str)), vs = [.ref a, v] ∧ PanF H C a xs rs ∧ Rw xs rs ∧ TrF H d v xs ls ∧
  ∀ (D : Addr) (H' : Hp), Same H H' → H D = none → H' D = some (.lst ((cardsL xs rs (fldL xs ls)).map V.str)) → Q (.ref D) H'
theorem TrF.field {H H' : Hp} {D : Addr} {d : Nat} {v : V} {xs ls : List Str} {rs : List (List Str)} (h : TrF H d v xs ls) (ra : Rw xs rs) (hD : H' D = some (.lst ((fldL xs ls).map V.str))) : FieldAt H' D xs (fldL xs ls) := by
  have sub : (fldL xs ls).Sublist xs := List.filter_sublist
  obtain ⟨z, hz⟩ := List.exists_mem_of_length_pos h.l1
  exact ⟨hD, lot_subl (sorted_pw ra.so) ra.nd sub, List.length_pos_of_mem (List.mem_filter.mpr ⟨h.sub z hz, decide_eq_true hz⟩), by have := sub.length_le; have := ra.le; omega⟩
section
variable {P : Program} {w : World} {K : PySem.W.Frag} {mg : Str → Option Value} {base : Heap} {C : Addr}
abbrev sIsTree : Stmt := top 30
abbrev nIsTree : List Str := ["entries", "value", "part"]
theorem scIsTree : FnScope nIsTree ["entries", "value"] (defScope sIsTree) := ⟨rfl, rfl, rfl, by decide +kernel, rfl, by decide +kernel, by decide +kernel⟩
theorem ok_isTree {f : Addr} {fd : FuncData} (F : FnP K "is_tree" sIsTree f fd) (g : mg "is_tree" = some (.ref f)) (L : Lib K mg) (LP : LibP mg) : ∀ d : Nat, FnOk P w K mg base CX0 (d + 1) f fd ["entries", "value"] (spIsTree d)
  | 0 => by
    refine okN F scIsTree (fun vs H Q E h => ?_) (fun cdv A outer s H vs Q E hr h => ?_)
    · obtain ⟨_, _, _, _, rfl, _⟩ := h
      rfl
    · obtain ⟨n, v, xs, ls, rfl, hn, ⟨z, rfl, rfl⟩, sub, k⟩ := h
      refine ⟨_, pss_cons (ps_if (pt_val (pe_callB call_isi (by rfl) LP.isi (by decide +kernel) (pa_cons (pv 1) (pa_cons (pe_bltn (v := .ty "list") (by rfl) LP.list (by decide +kernel) rfl) pa_nil)))) (pss_one ps_never) pss_nil) (pss_one (ps_ret (pe_cmpR op_in_seq (pv 1) (pv 0) (by rfl)))), ?_⟩
      refine ⟨_, rfl, .str z, .ty "list", .type "str", .type "list", false, rfl, .ty _, .base (.str z), kit_ty (by decide +kernel), _, rfl, iteF ?_⟩
      refine ⟨_, rfl, _, rfl, n, xs.map V.str, rfl, .inl (SqL.of hn), rfl, flat_strs, ?_⟩
      rw [if_neg Bool.false_ne_true, inV_str, decide_eq_true (sub z (List.mem_singleton.mpr rfl))]
      exact k H (fun _ _ h => h)
  | d + 1 => by
    have D : Df P w K mg base (d + 1) "is_tree" sIsTree ["entries", "value"] (spIsTree d) := ⟨⟨f, fd, F, g, ok_isTree F g L LP d, F.bindsN fun _ _ _ _ _ _ us hl => match us, hl with | [_, _], _ => rfl⟩⟩
    refine okN F scIsTree (fun vs H Q E h => ?_) (fun cdv A outer s H vs Q E hr h => ?_)
    · obtain ⟨_, _, _, _, rfl, _⟩ := h
      rfl
    · obtain ⟨n, v, xs, ls, rfl, hn, ht, sub, k⟩ := h
      have nd := scIsTree.nd
      refine ⟨_, pss_cons (ps_if (pt_val (pe_callB call_isi (by rfl) LP.isi (by decide +kernel) (pa_cons (pv 1) (pa_cons (pe_bltn (v := .ty "list") (by rfl) LP.list (by decide +kernel) rfl) pa_nil)))) (pss_one (ps_ret (pe_and (pe_cmpR op_gt (pe_callB call_len_seq (by rfl) L.len PySem.boot_len (pa_cons (pv 1) pa_nil)) pe_int (nomark _)) (pe_one (pe_callB (cr_all rfl) (by rfl) LP.all (by decide +kernel) (pa_cons (pe_lc (own := [("part", 2)]) (g := gName 2) (tt := tYes) (te := tCall (spIsTree d) [] E0 (tCons (tVar 0) (tCons (tVar 2) tNil))) (by rfl) nd (pi_list (pv 1))
        (blkOk_by (N := nIsTree) (sc := (defScope sIsTree)) (by decide +kernel)) (fun _ _ _ _ _ => (pg_name (i := 2) scIsTree.nd rfl (Or.inl rfl))) (fun _ _ _ _ _ => pts_nil) (fun _ _ _ _ _ => (pe_df D hr (by rfl) (pa_cons (pv 0) (pa_cons (pv 2) pa_nil))))) pa_nil)))))) pss_nil) (pss_one (ps_ret (pe_cmpR op_in_seq (pv 1) (pv 0) (by rfl)))), ?_⟩
      rcases ht with ⟨z, rfl, rfl⟩ | ⟨a, vs, lss, rfl, ha, l1, l60, ll, f0, rfl⟩
      · refine ⟨_, rfl, .str z, .ty "list", .type "str", .type "list", false, rfl, .ty _, .base (.str z), kit_ty (by decide +kernel), _, rfl, iteF ?_⟩
        refine ⟨_, rfl, _, rfl, n, xs.map V.str, rfl, .inl (SqL.of hn), rfl, flat_strs, ?_⟩
        rw [if_neg Bool.false_ne_true, inV_str, decide_eq_true (sub z (List.mem_singleton.mpr rfl))]
        exact k H (fun _ _ h => h)
      · refine ⟨_, rfl, .ref a, .ty "list", .type "list", .type "list", true, rfl, .ty _, .base (.lst ha), kit_ty (by decide +kernel), _, rfl, iteT ?_⟩
        refine ⟨_, rfl, a, _, rfl, .inl (SqL.of ha), _, _, rfl, rfl, _, rfl, ?_⟩
        refine ite2 (fun _ => ?_) fun q => absurd (decide_eq_true (show ((vs.length : Nat) : Int) > 0 by omega)) q
        refine ⟨_, rfl, a, rfl, ⟨_, SqL.of ha⟩, fun D' nD => lc_list (K := K) (a := a) (xs := vs) (fun i H' => H' D' = some (.lst (List.replicate i (V.bl true))) ∧ Same H H') ⟨upd_same, sn nD⟩ (fun i H' _ h => SqL.of (h.2 _ _ ha)) ?_ ?_⟩
        · rintro i x H' hx ⟨w1, w2⟩
          have il : i < vs.length := (List.getElem?_eq_some_iff.mp hx).1
          obtain ⟨l, hl⟩ : ∃ l, lss[i]? = some l := ⟨_, List.getElem?_eq_getElem (by omega)⟩
          refine ⟨rfl, _, rfl, _, rfl, n, x, xs, l, rfl, w2 _ _ hn, TrAt.same w2 (f0 i x l hx hl), fun z hz => sub z (flat_in hl z hz), fun H'' s'' => ⟨_, s'' _ _ w1, small1000 (by rw [List.length_replicate]; omega), by rw [upd_same, List.replicate_succ'], fun b o hb => ?_⟩⟩
          rw [upd_ne (ne_of_none hb nD)]
          exact s'' _ _ (w2 _ _ hb)
        · rintro H2 ⟨w1, w2⟩
          refine ⟨D', List.replicate vs.length true, rfl, SqL.of (by rw [w1, List.map_replicate]), ?_⟩
          rw [show (List.replicate vs.length true).all id = true from List.all_eq_true.mpr fun b hb => (List.eq_of_mem_replicate hb)]
          exact k H2 w2
abbrev sEntIn : Stmt := top 32
abbrev nEntIn : List Str := ["tree", "found", "part"]
theorem scEntIn : FnScope nEntIn ["tree"] (defScope sEntIn) := ⟨rfl, rfl, rfl, by decide +kernel, rfl, by decide +kernel, by decide +kernel⟩
theorem ok_entIn {f : Addr} {fd : FuncData} (F : FnP K "entries_in" sEntIn f fd) (g : mg "entries_in" = some (.ref f)) (LP : LibP mg) : ∀ d : Nat, FnOk P w K mg base CX0 (d + 1) f fd ["tree"] (spEntIn d)
  | 0 => by
    refine okN F scEntIn (fun vs H Q E h => ?_) (fun cdv A outer s H vs Q E hr h => ?_)
    · obtain ⟨_, _, rfl, _⟩ := h
      rfl
    · obtain ⟨v, ls, rfl, ⟨z, rfl, rfl⟩, l100, k⟩ := h
      refine ⟨_, pss_cons (ps_if (pt_not (pt_val (pe_callB call_isi (by rfl) LP.isi (by decide +kernel) (pa_cons (pv 0) (pa_cons (pe_bltn (v := .ty "list") (by rfl) LP.list (by decide +kernel) rfl) pa_nil))))) (pss_one (ps_ret (pe_lst (pa_cons (pv 0) pa_nil)))) pss_nil) (pss_cons ps_never (pss_cons ps_never (pss_one ps_never))), ?_⟩
      refine ⟨_, rfl, .str z, .ty "list", .type "str", .type "list", false, rfl, .ty _, .base (.str z), kit_ty (by decide +kernel), _, rfl, iteT ?_⟩
      exact ⟨_, rfl, (show 1 ≤ sizeLine by decide), fun D nD => k D _ (sn nD) nD upd_same⟩
  | d + 1 => by
    have D : Df P w K mg base (d + 1) "entries_in" sEntIn ["tree"] (spEntIn d) := ⟨⟨f, fd, F, g, ok_entIn F g LP d, F.bindsN fun _ _ _ _ _ _ us hl => match us, hl with | [_], _ => rfl⟩⟩
    refine okN F scEntIn (fun vs H Q E h => ?_) (fun cdv A outer s H vs Q E hr h => ?_)
    · obtain ⟨_, _, rfl, _⟩ := h
      rfl
    · obtain ⟨v, ls, rfl, ht, l100, k⟩ := h
      have nd := scEntIn.nd
      refine ⟨_, pss_cons (ps_if (pt_not (pt_val (pe_callB call_isi (by rfl) LP.isi (by decide +kernel) (pa_cons (pv 0) (pa_cons (pe_bltn (v := .ty "list") (by rfl) LP.list (by decide +kernel) rfl) pa_nil))))) (pss_one (ps_ret (pe_lst (pa_cons (pv 0) pa_nil)))) pss_nil) (pss_cons (ps_set (i := 1) nd rfl (Or.inl rfl) (pe_lst pa_nil)) (pss_cons (ps_for PassesOwn.never rfl (pi_list (pv 0)) (pg_name (i := 2) nd rfl (Or.inl rfl)) (pss_one (ps_set (i := 1) nd rfl (Or.inl rfl) (pe_op op_cat (pv 1) (pe_df D hr (by rfl) (pa_cons (pv 2) pa_nil)))))) (pss_one (ps_ret (pv 1))))), ?_⟩
      rcases ht with ⟨z, rfl, rfl⟩ | ⟨a, vs, lss, rfl, ha, l1, l60, ll, f0, rfl⟩
      · refine ⟨_, rfl, .str z, .ty "list", .type "str", .type "list", false, rfl, .ty _, .base (.str z), kit_ty (by decide +kernel), _, rfl, iteT ?_⟩
        exact ⟨_, rfl, (show 1 ≤ sizeLine by decide), fun D nD => k D _ (sn nD) nD upd_same⟩
      · refine ⟨_, rfl, .ref a, .ty "list", .type "list", .type "list", true, rfl, .ty _, .base (.lst ha), kit_ty (by decide +kernel), _, rfl, iteF ?_⟩
        refine ⟨Nat.zero_le _, fun F0 nF => ⟨_, rfl, a, rfl, ⟨_, SqL.of (sn nF _ _ ha)⟩, for_list (K := K) (a := a) (xs := vs) (fun i σ H' => ∃ (o : Option V) (F1 : Addr), σ = [some (.ref a), some (.ref F1), o] ∧ H' F1 = some (.lst ((lss.take i).flatten.map V.str)) ∧ H F1 = none ∧ Same H H')
          ⟨none, F0, rfl, upd_same, nF, sn nF⟩ (fun i σ H' _ h => by obtain ⟨_, _, _, _, _, h⟩ := h; exact SqL.of (h _ _ ha)) ?_ ?_⟩⟩
        · rintro i x σ H1 hx ⟨o, F1, rfl, hF, nF1, s1⟩
          have il : i < vs.length := (List.getElem?_eq_some_iff.mp hx).1
          obtain ⟨l, hl⟩ : ∃ l, lss[i]? = some l := ⟨_, List.getElem?_eq_getElem (by omega)⟩
          obtain ⟨fl, fe⟩ := flat_len hl
          refine ⟨_, rfl, _, rfl, x, l, rfl, TrAt.same s1 (f0 i x l hx hl), by omega, fun E1 H2 s2 nE hE => ?_⟩
          refine ⟨F1, E1, _, _, rfl, rfl, s2 _ _ hF, hE, Nat.le_of_lt (small1000 (by rw [List.length_map, List.length_map]; omega)), fun F2 nF2 => ?_⟩
          exact ⟨_, F2, rfl, by rw [upd_same, fe, List.map_append], (s1.trans s2).free nF2, s1.trans (s2.trans (sn nF2))⟩
        · rintro σ H1 ⟨o, F1, rfl, hF, nF1, s1⟩
          rw [← ll, List.take_length] at hF
          exact ⟨_, rfl, k F1 H1 s1 nF1 hF⟩
abbrev sChkT : Stmt := top 31
abbrev nChkT : List Str := ["panel", "tree"]
theorem scChkT : FnScope nChkT ["panel", "tree"] (defScope sChkT) := ⟨rfl, rfl, rfl, by decide +kernel, rfl, by decide +kernel, by decide +kernel⟩
theorem ok_chkT {d : Nat} {f : Addr} {fd : FuncData} (F : FnP K "check_tree" sChkT f fd) (N : PanP P w K mg base C) (D_check_panel : Df P w K mg base 1 "check_panel" sChkP ["panel"] (spChkP C)) (D_is_tree : Df P w K mg base (d + 1) "is_tree" sIsTree ["entries", "value"] (spIsTree d)) :
    FnOk P w K mg base CX0 (d + 2) f fd ["panel", "tree"] (spChkT C d) := by
  refine okN F scChkT (fun vs H Q E h => ?_) (fun cdv A outer s H vs Q E hr h => ?_)
  · obtain ⟨_, _, _, _, _, rfl, _⟩ := h
    rfl
  · obtain ⟨a, v, xs, ls, rs, rfl, pa, tr, k⟩ := h
    have nd := scChkT.nd
    have r1 : Room 1 (A.deeper (envOfC "check_tree" (defScope sChkT) s.heap.objs.size f cdv)) := hr.mono (by omega)
    refine' ⟨_, pss_cons ?b0 (pss_one ?b1), ?_⟩
    case b0 => exact (ps_expr (pe_df D_check_panel r1 (by rfl) (pa_cons (pv 0) pa_nil)))
    case b1 => exact (ps_if (pt_not (pt_val (pe_df D_is_tree hr (by rfl) (pa_cons (pe_mt (pv 0) N.cls N.en r1) (pa_cons (pv 1) pa_nil))))) (pss_one ps_never) pss_nil)
    obtain ⟨dx, gs, fr1, fr2, fr3, fr4⟩ := id pa.fre
    refine ⟨_, rfl, a, dx, gs, rfl, fr1, ?_⟩
    refine ⟨_, rfl, a, dx, gs, rfl, fr1, fr2, a, xs, rs, rfl, pa.at_, fun E1 H1 s1 nE hE => ?_⟩
    exact ⟨_, rfl, E1, v, xs, ls, rfl, hE, TrAt.same s1 tr.tr, tr.sub, fun H2 s2 => ⟨_, rfl, iteF (k H2 (s1.trans s2))⟩⟩
abbrev sFieldOf : Stmt := top 33
abbrev nFieldOf : List Str := ["panel", "tree"]
theorem scFieldOf : FnScope nFieldOf ["panel", "tree"] (defScope sFieldOf) := ⟨rfl, rfl, rfl, by decide +kernel, rfl, by decide +kernel, by decide +kernel⟩
theorem ok_fieldOf {d : Nat} {f : Addr} {fd : FuncData} (F : FnP K "field_of" sFieldOf f fd) (LP : LibP mg) (D_check_tree : Df P w K mg base (d + 2) "check_tree" sChkT ["panel", "tree"] (spChkT C d)) (D_entries_in : Df P w K mg base (d + 1) "entries_in" sEntIn ["tree"] (spEntIn d)) :
    FnOk P w K mg base CX0 (d + 3) f fd ["panel", "tree"] (spFieldOf C d) := by
  refine okN F scFieldOf (fun vs H Q E h => ?_) (fun cdv A outer s H vs Q E hr h => ?_)
  · obtain ⟨_, _, _, _, _, rfl, _⟩ := h
    rfl
  · obtain ⟨a, v, xs, ls, rs, rfl, pa, ra, tr, k⟩ := h
    have nd := scFieldOf.nd
    have r1 : Room (d + 1) (A.deeper (envOfC "field_of" (defScope sFieldOf) s.heap.objs.size f cdv)) := hr.mono (by omega)
    refine' ⟨_, pss_cons ?b0 (pss_one ?b1), ?_⟩
    case b0 => exact (ps_expr (pe_df D_check_tree hr (by rfl) (pa_cons (pv 0) (pa_cons (pv 1) pa_nil))))
    case b1 => exact (ps_ret (pe_sortS rfl (by rfl) LP.sorted (by rfl) LP.set (pe_df D_entries_in r1 (by rfl) (pa_cons (pv 1) pa_nil))))
    have l60 := tr.l60
    refine ⟨_, rfl, _, rfl, a, v, xs, ls, rs, rfl, pa, tr, fun H1 s1 => ?_⟩
    refine ⟨_, rfl, v, ls, rfl, TrAt.same s1 tr.tr, by omega, fun E1 H2 s2 nE hE => ?_⟩
    refine ⟨E1, ls, rfl, SqL.of hE, by omega, fun ys p so nd2 mem le np => ?_⟩
    have s12 := s1.trans s2
    have e : ys = fldL xs ls := by
      have sub := sub_ofT ra.so ra.nd so nd2 (fun z hz => tr.sub z ((mem z).mp hz))
      refine sorted_uniq so (sorted_filter ra.so) ((List.perm_ext_iff_of_nodup nd2 (ra.nd.sublist List.filter_sublist)).mpr fun z => ?_)
      rw [List.mem_filter, decide_eq_true_iff, mem z]
      exact ⟨fun q => ⟨tr.sub z q, q⟩, fun q => q.2⟩
    subst e
    exact k p _ (s12.trans (sn np)) (s12.free np) upd_same
abbrev sHeats : Stmt := top 34
abbrev nHeats : List Str := ["panel", "tree"]
theorem scHeats : FnScope nHeats ["panel", "tree"] (defScope sHeats) := ⟨rfl, rfl, rfl, by decide +kernel, rfl, by decide +kernel, by decide +kernel⟩
theorem ok_heats {d : Nat} {f : Addr} {fd : FuncData} (F : FnP K "heats" sHeats f fd) (D_cards : Df P w K mg base 5 "cards" sCards ["panel", "field"] (spCards C)) (D_field_of : Df P w K mg base (d + 3) "field_of" sFieldOf ["panel", "tree"] (spFieldOf C d)) :
    FnOk P w K mg base CX0 (d + 6) f fd ["panel", "tree"] (spHeats C d) := by
  refine okN F scHeats (fun vs H Q E h => ?_) (fun cdv A outer s H vs Q E hr h => ?_)
  · obtain ⟨_, _, _, _, _, rfl, _⟩ := h
    rfl
  · obtain ⟨a, v, xs, ls, rs, rfl, pa, ra, tr, k⟩ := h
    have nd := scHeats.nd
    have r5 : Room 5 (A.deeper (envOfC "heats" (defScope sHeats) s.heap.objs.size f cdv)) := hr.mono (by omega)
    have r3 : Room (d + 3) (A.deeper (envOfC "heats" (defScope sHeats) s.heap.objs.size f cdv)) := hr.mono (by omega)
    refine' ⟨_, pss_one ?b0, ?_⟩
    case b0 => exact (ps_ret (pe_df D_cards r5 (by rfl) (pa_cons (pv 0) (pa_cons (pe_df D_field_of r3 (by rfl) (pa_cons (pv 0) (pa_cons (pv 1) pa_nil))) pa_nil))))
    refine ⟨_, rfl, _, rfl, _, rfl, a, v, xs, ls, rs, rfl, pa, ra, tr, fun D1 H1 s1 nD hD => ?_⟩
    have fa := tr.field ra hD
    refine ⟨a, D1, xs, _, rs, rfl, pa.same s1, fa, ra.pr, fun ys D2 H2 s2 nD2 hD2 so nd2 mem _ => ?_⟩
    obtain rfl := cards_eq ra fa so nd2 mem
    exact k D2 H2 (s1.trans s2) (s1.free nD2) hD2
end
end K24

set_option maxHeartbeats 8000000
namespace K24
open PySem PySem.Spec PyProof.Rows L2 G1
def spFldIn (d : Nat) : Sp := fun vs H Q _ => ∃ (v : V) (ls : List Str), vs = [v] ∧ TrAt H d v ls ∧ ls.length ≤ 60 ∧
  ∀ (D : Addr) (ys : List Str) (H' : Hp), Same H H' → H D = none → H' D = some (.lst (ys.map V.str)) → sortedS ys = true → ys.Nodup → (∀ z, z ∈ ys ↔ z ∈ ls) → ys.length ≤ ls.length → Q (.ref D) H'
section
variable {P : Program} {w : World} {K : PySem.W.Frag} {mg : Str → Option Value} {base : Heap} {C : Addr}
abbrev sFldIn : Stmt := top 54
abbrev nFldIn : List Str := ["_law_tree", "_law_found", "_law_one"]
theorem scFldIn : FnScope nFldIn ["_law_tree"] (defScope sFldIn) := ⟨rfl, rfl, rfl, by decide +kernel, rfl, by decide +kernel, by decide +kernel⟩
theorem ok_fldIn {f : Addr} {fd : FuncData} (F : FnP K "_law_field_in" sFldIn f fd) (g : mg "_law_field_in" = some (.ref f)) (LP : LibP mg) : ∀ d : Nat, FnOk P w K mg base CX0 (d + 1) f fd ["_law_tree"] (spFldIn d)
  | 0 => by
    refine okN F scFldIn (fun vs H Q E h => ?_) (fun cdv A outer s H vs Q E hr h => ?_)
    · obtain ⟨_, _, rfl, _⟩ := h
      rfl
    · obtain ⟨v, ls, rfl, ⟨z, rfl, rfl⟩, l100, k⟩ := h
      refine ⟨_, pss_cons (ps_if (pt_not (pt_val (pe_callB call_isi (by rfl) LP.isi (by decide +kernel) (pa_cons (pv 0) (pa_cons (pe_bltn (v := .ty "list") (by rfl) LP.list (by decide +kernel) rfl) pa_nil))))) (pss_one (ps_ret (pe_lst (pa_cons (pv 0) pa_nil)))) pss_nil) (pss_cons ps_never (pss_cons ps_never (pss_one ps_never))), ?_⟩
      refine ⟨_, rfl, .str z, .ty "list", .type "str", .type "list", false, rfl, .ty _, .base (.str z), kit_ty (by decide +kernel), _, rfl, iteT ?_⟩
      exact ⟨_, rfl, (show 1 ≤ sizeLine by decide), fun D nD => k D [z] _ (sn nD) nD upd_same (pw_sorted (List.pairwise_singleton _ _)) (by simp) (fun _ => Iff.rfl) (Nat.le_refl _)⟩
  | d + 1 => by
    have D : Df P w K mg base (d + 1) "_law_field_in" sFldIn ["_law_tree"] (spFldIn d) := ⟨⟨f, fd, F, g, ok_fldIn F g LP d, F.bindsN fun _ _ _ _ _ _ us hl => match us, hl with | [_], _ => rfl⟩⟩
    refine okN F scFldIn (fun vs H Q E h => ?_) (fun cdv A outer s H vs Q E hr h => ?_)
    · obtain ⟨_, _, rfl, _⟩ := h
      rfl
    · obtain ⟨v, ls, rfl, ht, l100, k⟩ := h
      have nd := scFldIn.nd
      refine ⟨_, pss_cons (ps_if (pt_not (pt_val (pe_callB call_isi (by rfl) LP.isi (by decide +kernel) (pa_cons (pv 0) (pa_cons (pe_bltn (v := .ty "list") (by rfl) LP.list (by decide +kernel) rfl) pa_nil))))) (pss_one (ps_ret (pe_lst (pa_cons (pv 0) pa_nil)))) pss_nil) (pss_cons (ps_set (i := 1) nd rfl (Or.inl rfl) (pe_lst pa_nil)) (pss_cons (ps_for PassesOwn.never rfl (pi_list (pv 0)) (pg_name (i := 2) nd rfl (Or.inl rfl)) (pss_one (ps_set (i := 1) nd rfl (Or.inl rfl) (pe_op op_cat (pv 1) (pe_df D hr (by rfl) (pa_cons (pv 2) pa_nil)))))) (pss_one (ps_ret (pe_sortS rfl (by rfl) LP.sorted (by rfl) LP.set (pv 1)))))), ?_⟩
      rcases ht with ⟨z, rfl, rfl⟩ | ⟨a, vs, lss, rfl, ha, l1, l60, ll, f0, rfl⟩
      · refine ⟨_, rfl, .str z, .ty "list", .type "str", .type "list", false, rfl, .ty _, .base (.str z), kit_ty (by decide +kernel), _, rfl, iteT ?_⟩
        exact ⟨_, rfl, (show 1 ≤ sizeLine by decide), fun D nD => k D [z] _ (sn nD) nD upd_same (pw_sorted (List.pairwise_singleton _ _)) (by simp) (fun _ => Iff.rfl) (Nat.le_refl _)⟩
      · refine ⟨_, rfl, .ref a, .ty "list", .type "list", .type "list", true, rfl, .ty _, .base (.lst ha), kit_ty (by decide +kernel), _, rfl, iteF ?_⟩
        refine ⟨Nat.zero_le _, fun F0 nF => ⟨_, rfl, a, rfl, ⟨_, SqL.of (sn nF _ _ ha)⟩, for_list (K := K) (a := a) (xs := vs) (fun i σ H' => ∃ (o : Option V) (F1 : Addr) (ws : List Str), σ = [some (.ref a), some (.ref F1), o] ∧ H' F1 = some (.lst (ws.map V.str)) ∧ (∀ z, z ∈ ws ↔ z ∈ (lss.take i).flatten) ∧ ws.length ≤ (lss.take i).flatten.length ∧ H F1 = none ∧ Same H H')
          ⟨none, F0, [], rfl, upd_same, (fun _ => Iff.rfl), Nat.le_refl _, nF, sn nF⟩ (fun i σ H' _ h => by obtain ⟨_, _, _, _, _, _, _, _, h⟩ := h; exact SqL.of (h _ _ ha)) ?_ ?_⟩⟩
        · rintro i x σ H1 hx ⟨o, F1, ws, rfl, hF, mem, lw, nF1, s1⟩
          have il : i < vs.length := (List.getElem?_eq_some_iff.mp hx).1
          obtain ⟨l, hl⟩ : ∃ l, lss[i]? = some l := ⟨_, List.getElem?_eq_getElem (by omega)⟩
          obtain ⟨fl, fe⟩ := flat_len hl
          refine ⟨_, rfl, _, rfl, x, l, rfl, TrAt.same s1 (f0 i x l hx hl), by omega, fun E1 ys H2 s2 nE hE so nd2 my ly => ?_⟩
          refine ⟨F1, E1, _, _, rfl, rfl, s2 _ _ hF, hE, Nat.le_of_lt (small1000 (by rw [List.length_map, List.length_map]; omega)), fun F2 nF2 => ?_⟩
          refine ⟨_, F2, ws ++ ys, rfl, by rw [upd_same, List.map_append], fun z => ?_, by rw [fe, List.length_append, List.length_append]; omega, (s1.trans s2).free nF2, s1.trans (s2.trans (sn nF2))⟩
          rw [fe, List.mem_append, List.mem_append, mem z, my z]
        · rintro σ H1 ⟨o, F1, ws, rfl, hF, mem, lw, nF1, s1⟩
          rw [← ll, List.take_length] at mem lw
          refine ⟨_, rfl, F1, ws, rfl, SqL.of hF, by omega, fun ys p so nd2 my le np => ?_⟩
          exact k p ys _ (s1.trans (sn np)) (s1.free np) upd_same so nd2 (fun z => (my z).trans (mem z)) (by omega)
end
end K24

set_option maxHeartbeats 8000000
namespace K24
open PySem PySem.Spec PyProof.Rows L2 G1
def spOne (K : PySem.W.Frag) : Sp := fun vs H Q _ => ∃ (p l : Addr) (xs : List V) (c : Nat), vs = [.ref p, .ref l] ∧ Purse H p c ∧ c ≤ 900000 ∧ SqL K H l xs ∧ l ≠ p ∧ 1 ≤ xs.length ∧ xs.length ≤ 100 ∧
  ∀ (x : V) (H' : Hp), x ∈ xs → Purse H' p (c + 3) → But p H H' → Q x H'
section
variable {P : Program} {w : World} {K : PySem.W.Frag} {mg : Str → Option Value} {base : Heap} {C : Addr}
abbrev sOne : Stmt := top 43
theorem scOne : FnScope ["_law_purse_here", "_law_some"] ["_law_purse_here", "_law_some"] (defScope sOne) := ⟨rfl, rfl, rfl, by decide +kernel, rfl, by decide +kernel, by decide +kernel⟩
theorem ok_one {f : Addr} {fd : FuncData} (F : FnP K "_law_one_of" sOne f fd) (L : Lib K mg) (DD : Df P w K mg base 2 "_law_draw" sDraw ["_law_purse_here", "_law_many"] spDraw) : FnOk P w K mg base CX0 3 f fd ["_law_purse_here", "_law_some"] (spOne K) := by
  refine okN F scOne (fun vs H Q E h => ?_) (fun cdv A outer s H vs Q E hr h => ?_)
  · obtain ⟨_, _, _, _, rfl, _⟩ := h
    rfl
  · obtain ⟨p, l, xs, c, rfl, hp, hc, hl, nlp, l1, l100, k⟩ := h
    refine ⟨_, pss_one (ps_ret (pe_ix ix_list (pv 1) (pe_df DD hr (by rfl) (pa_cons (pv 0) (pa_cons (pe_callB call_len_seq (by rfl) L.len PySem.boot_len (pa_cons (pv 1) pa_nil)) pa_nil))) (fun _ _ => rfl))), ?_⟩
    refine ⟨_, rfl, _, rfl, _, rfl, l, xs, rfl, .inl hl, p, (xs.length : Int), c, rfl, by omega, by omega, hp, by omega, fun q H2 q0 q1 hp2 b2 => ?_⟩
    obtain ⟨t, rfl⟩ := Int.eq_ofNat_of_zero_le q0
    obtain ⟨x, hx⟩ : ∃ x, xs[t]? = some x := ⟨_, List.getElem?_eq_getElem (by omega)⟩
    exact ⟨l, xs, (t : Int), x, rfl, rfl, SqL.but hl b2 nlp, atI_nat hx, k x H2 (List.mem_of_getElem? hx) hp2 b2⟩
end
end K24

set_option maxHeartbeats 8000000
namespace K24
open PySem PySem.Spec PyProof.Rows L2 G1
/-- one of a long list -/
def spOneW (K : PySem.W.Frag) : Sp := fun vs H Q _ => ∃ (p l : Addr) (xs : List V) (c : Nat), vs = [.ref p, .ref l] ∧ Purse H p c ∧ c ≤ 900000 ∧ SqL K H l xs ∧ l ≠ p ∧ 1 ≤ xs.length ∧ xs.length ≤ 10000 ∧
  ∀ (x : V) (H' : Hp), x ∈ xs → Purse H' p (c + 3) → But p H H' → Q x H'
section
variable {P : Program} {w : World} {K : PySem.W.Frag} {mg : Str → Option Value} {base : Heap} {C : Addr}
theorem ok_oneW {f : Addr} {fd : FuncData} (F : FnP K "_law_one_of" sOne f fd) (L : Lib K mg) (DD : Df P w K mg base 2 "_law_draw" sDraw ["_law_purse_here", "_law_many"] spDraw) : FnOk P w K mg base CX0 3 f fd ["_law_purse_here", "_law_some"] (spOneW K) := by
  refine okN F scOne (fun vs H Q E h => ?_) (fun cdv A outer s H vs Q E hr h => ?_)
  · obtain ⟨_, _, _, _, rfl, _⟩ := h
    rfl
  · obtain ⟨p, l, xs, c, rfl, hp, hc, hl, nlp, l1, l100, k⟩ := h
    refine ⟨_, pss_one (ps_ret (pe_ix ix_list (pv 1) (pe_df DD hr (by rfl) (pa_cons (pv 0) (pa_cons (pe_callB call_len_seq (by rfl) L.len PySem.boot_len (pa_cons (pv 1) pa_nil)) pa_nil))) (fun _ _ => rfl))), ?_⟩
    refine ⟨_, rfl, _, rfl, _, rfl, l, xs, rfl, .inl hl, p, (xs.length : Int), c, rfl, by omega, by omega, hp, by omega, fun q H2 q0 q1 hp2 b2 => ?_⟩
    obtain ⟨t, rfl⟩ := Int.eq_ofNat_of_zero_le q0
    obtain ⟨x, hx⟩ : ∃ x, xs[t]? = some x := ⟨_, List.getElem?_eq_getElem (by omega)⟩
    exact ⟨l, xs, (t : Int), x, rfl, rfl, SqL.but hl b2 nlp, atI_nat hx, k x H2 (List.mem_of_getElem? hx) hp2 b2⟩
end
end K24

set_option maxHeartbeats 8000000
namespace K24
open PySem PySem.Spec PyProof.Rows L2 G1
/-- a tree whose lists stand at such places -/
def TrP (Pd : Addr → Prop) (H : Hp) : Nat → V → List Str → Prop
  | 0, v, ls => ∃ z, v = .str z ∧ ls = [z]
  | d + 1, v, ls => (∃ z, v = .str z ∧ ls = [z]) ∨ ∃ (a : Addr) (vs : List V) (lss : List (List Str)), v = .ref a ∧ Pd a ∧ H a = some (.lst vs) ∧ 1 ≤ vs.length ∧ vs.length ≤ 60 ∧ lss.length = vs.length ∧ (∀ (i : Nat) (x : V) (l : List Str), vs[i]? = some x → lss[i]? = some l → TrP Pd H d x l) ∧ ls = lss.flatten
theorem TrP.keep {Pd Pd' : Addr → Prop} {H H' : Hp} (p : ∀ a, Pd a → H a ≠ none → Pd' a) (s : ∀ a o, Pd a → H a = some o → H' a = some o) : ∀ {d : Nat} {v : V} {ls : List Str}, TrP Pd H d v ls → TrP Pd' H' d v ls
  | 0, _, _, h => h
  | d + 1, _, _, .inl h => .inl h
  | d + 1, _, _, .inr ⟨a, vs, lss, e, pa, h, l1, l2, l3, f, q⟩ => .inr ⟨a, vs, lss, e, p a pa (by rw [h]; exact fun e => nomatch e), s _ _ pa h, l1, l2, l3, fun i x l hx hl => TrP.keep p s (f i x l hx hl), q⟩
theorem TrP.at_ {Pd : Addr → Prop} {H : Hp} : ∀ {d : Nat} {v : V} {ls : List Str}, TrP Pd H d v ls → TrAt H d v ls
  | 0, _, _, h => h
  | d + 1, _, _, .inl h => .inl h
  | d + 1, _, _, .inr ⟨a, vs, lss, e, _, h, l1, l2, l3, f, q⟩ => .inr ⟨a, vs, lss, e, h, l1, l2, l3, fun i x l hx hl => TrP.at_ (f i x l hx hl), q⟩
theorem TrP.leaf {Pd : Addr → Prop} {H : Hp} {z : Str} : ∀ {d : Nat}, TrP Pd H d (.str z) [z]
  | 0 => ⟨z, rfl, rfl⟩
  | _ + 1 => .inl ⟨z, rfl, rfl⟩
/-- the same, and the tree's own list is none of its parts' -/
def TrR (Pd : Addr → Prop) (H : Hp) : Nat → V → List Str → Prop
  | 0, v, ls => ∃ z, v = .str z ∧ ls = [z]
  | d + 1, v, ls => (∃ z, v = .str z ∧ ls = [z]) ∨ ∃ (a : Addr) (vs : List V) (lss : List (List Str)), v = .ref a ∧ Pd a ∧ H a = some (.lst vs) ∧ 1 ≤ vs.length ∧ vs.length ≤ 60 ∧ lss.length = vs.length ∧ (∀ (i : Nat) (x : V) (l : List Str), vs[i]? = some x → lss[i]? = some l → TrP (fun b => Pd b ∧ b ≠ a) H d x l) ∧ ls = lss.flatten
theorem TrR.leaf {Pd : Addr → Prop} {H : Hp} {z : Str} : ∀ {d : Nat}, TrR Pd H d (.str z) [z]
  | 0 => ⟨z, rfl, rfl⟩
  | _ + 1 => .inl ⟨z, rfl, rfl⟩
theorem TrR.trP {Pd : Addr → Prop} {H : Hp} : ∀ {d : Nat} {v : V} {ls : List Str}, TrR Pd H d v ls → TrP Pd H d v ls
  | 0, _, _, h => h
  | d + 1, _, _, .inl h => .inl h
  | d + 1, _, _, .inr ⟨a, vs, lss, e, pa, h, l1, l2, l3, f, q⟩ => .inr ⟨a, vs, lss, e, pa, h, l1, l2, l3, fun i x l hx hl => TrP.keep (fun _ h _ => h.1) (fun _ _ _ e => e) (f i x l hx hl), q⟩
theorem flat_le {m : Nat} : ∀ {lss : List (List Str)}, (∀ l ∈ lss, l.length ≤ m) → lss.flatten.length ≤ lss.length * m
  | [], _ => Nat.zero_le _
  | l :: lss, h => by
    have h1 := h l (.head _)
    have h2 := flat_le fun x hx => h x (.tail _ hx)
    rw [List.flatten_cons, List.length_append, List.length_cons, Nat.succ_mul]
    omega
/-- what drawing a tree costs -/
def costT : Nat → Nat
  | 0 => 6
  | d + 1 => 6 + 3 * costT d
def spTreeOf (d : Nat) : Sp := fun vs H Q _ => ∃ (p n : Addr) (c : Nat) (xs : List Str), vs = [.ref p, .ref n, .int (d : Int)] ∧ Purse H p c ∧ c + costT d ≤ 200000 ∧ H n = some (.lst (xs.map V.str)) ∧ 1 ≤ xs.length ∧ xs.length ≤ 100 ∧
  ∀ (v : V) (ls : List Str) (H' : Hp), TrR (fun a => H a = none) H' d v ls → (∀ z ∈ ls, z ∈ xs) → 1 ≤ ls.length → ls.length ≤ 3 ^ d → Purse H' p (c + costT d) → But p H H' → Q v H'
section
variable {P : Program} {w : World} {K : PySem.W.Frag} {mg : Str → Option Value} {base : Heap} {C : Addr}
abbrev sTreeOf : Stmt := top 52
abbrev nTreeOf : List Str := ["_law_purse_here", "_law_names_here", "_law_deep", "_law_turn"]
theorem scTreeOf : FnScope nTreeOf ["_law_purse_here", "_law_names_here", "_law_deep"] (defScope sTreeOf) := ⟨rfl, rfl, rfl, by decide +kernel, rfl, by decide +kernel, by decide +kernel⟩
theorem ok_treeOf {f : Addr} {fd : FuncData} (F : FnP K "_law_tree_of" sTreeOf f fd) (g : mg "_law_tree_of" = some (.ref f)) (L : Lib K mg) (D__law_draw : Df P w K mg base 2 "_law_draw" sDraw ["_law_purse_here", "_law_many"] spDraw) (D__law_one_of : Df P w K mg base 3 "_law_one_of" sOne ["_law_purse_here", "_law_some"] (spOneW K)) : ∀ d : Nat, FnOk P w K mg base CX0 (d + 4) f fd ["_law_purse_here", "_law_names_here", "_law_deep"] (spTreeOf d)
  | 0 => by
    refine okN F scTreeOf (fun vs H Q E h => ?_) (fun cdv A outer s H vs Q E hr h => ?_)
    · obtain ⟨_, _, _, _, rfl, _⟩ := h
      rfl
    · obtain ⟨p, n, c, xs, rfl, hp, hc, hn, l1, l100, k⟩ := h
      have nd := scTreeOf.nd
      have r2 : Room 2 (A.deeper (envOfC "_law_tree_of" (defScope sTreeOf) s.heap.objs.size f cdv)) := hr.mono (by omega)
      have hc' : c + 6 ≤ 200000 := hc
      refine ⟨_, pss_cons (ps_if (PW.pt (pw_or (pt_cmpR op_eq (pv 2) pe_int (nomark _)) (pw_or1 (pt_cmpR op_eq (pe_df D__law_draw r2 (by rfl) (pa_cons (pv 0) (pa_cons pe_int pa_nil))) pe_int (nomark _))))) (pss_one (ps_ret (pe_df D__law_one_of hr (by rfl) (pa_cons (pv 0) (pa_cons (pv 1) pa_nil))))) pss_nil) (pss_one ps_never), ?_⟩
      refine ⟨_, rfl, rfl, _, rfl, ?_⟩
      rw [show decide (V.int ((0 : Nat) : Int) = V.int 0) = true from decide_eq_true rfl]
      refine iteT (iteT ?_)
      refine ⟨_, rfl, _, rfl, p, n, xs.map V.str, c, rfl, hp, by omega, SqL.of hn, ne_purse hn str_no_int hp, by rw [List.length_map]; omega, by rw [List.length_map]; omega, fun x H' mx hp' b' => ?_⟩
      obtain ⟨z, mz, rfl⟩ := List.mem_map.mp mx
      exact k (.str z) [z] H' TrR.leaf (fun y hy => by rw [List.mem_singleton.mp hy]; exact mz) (Nat.le_refl _) (Nat.le_refl _) (hp'.mono (by show c + 3 ≤ c + 6; omega)) b'
  | d + 1 => by
    have D : Df P w K mg base (d + 4) "_law_tree_of" sTreeOf ["_law_purse_here", "_law_names_here", "_law_deep"] (spTreeOf d) := ⟨⟨f, fd, F, g, ok_treeOf F g L D__law_draw D__law_one_of d, F.bindsN fun _ _ _ _ _ _ us hl => match us, hl with | [_, _, _], _ => rfl⟩⟩
    refine okN F scTreeOf (fun vs H Q E h => ?_) (fun cdv A outer s H vs Q E hr h => ?_)
    · obtain ⟨_, _, _, _, rfl, _⟩ := h
      rfl
    · obtain ⟨p, n, c, xs, rfl, hp, hc, hn, l1, l100, k⟩ := h
      have nd := scTreeOf.nd
      have r2 : Room 2 (A.deeper (envOfC "_law_tree_of" (defScope sTreeOf) s.heap.objs.size f cdv)) := hr.mono (by omega)
      have r3 : Room 3 (A.deeper (envOfC "_law_tree_of" (defScope sTreeOf) s.heap.objs.size f cdv)) := hr.mono (by omega)
      have hc' : c + (6 + 3 * costT d) ≤ 200000 := hc
      have npn : n ≠ p := ne_purse hn str_no_int hp
      refine ⟨_, pss_cons (ps_if (PW.pt (pw_or (pt_cmpR op_eq (pv 2) pe_int (nomark _)) (pw_or1 (pt_cmpR op_eq (pe_df D__law_draw r2 (by rfl) (pa_cons (pv 0) (pa_cons pe_int pa_nil))) pe_int (nomark _))))) (pss_one (ps_ret (pe_df D__law_one_of r3 (by rfl) (pa_cons (pv 0) (pa_cons (pv 1) pa_nil))))) pss_nil) (pss_one (ps_ret (pe_lc (own := [("_law_turn", 3)]) (g := gName 3) (tt := tYes) (te := tCall (spTreeOf d) [] E0 (tCons (tVar 0) (tCons (tVar 1) (tCons (tOp (rI0 fun i j => .int (i - j)) (tVar 2) (tC (.int 1))) tNil)))) (by rfl) nd (pi_range1 (by rfl) L.range (pa_cons (pe_op op_add pe_int (pe_df D__law_draw r2 (by rfl) (pa_cons (pv 0) (pa_cons pe_int pa_nil)))) pa_nil))
        (blkOk_by (N := nTreeOf) (sc := (defScope sTreeOf)) (by decide +kernel)) (fun _ _ _ _ _ => (pg_name (i := 3) scTreeOf.nd rfl (Or.inl rfl))) (fun _ _ _ _ _ => pts_nil) (fun _ _ _ _ _ => (pe_df D hr (by rfl) (pa_cons (pv 0) (pa_cons (pv 1) (pa_cons (pe_op op_sub (pv 2) pe_int) pa_nil)))))))), ?_⟩
      refine ⟨_, rfl, rfl, _, rfl, ?_⟩
      rw [decide_eq_false (fun e => by injection e with e; omega)]
      refine iteF ?_
      refine ⟨_, rfl, p, 3, c, rfl, by decide, by decide, hp, by omega, fun q1 H1 q10 q11 hp1 b1 => ⟨rfl, _, rfl, ?_⟩⟩
      cases decide (V.int q1 = V.int 0) with
      | true =>
        refine iteT ?_
        refine ⟨_, rfl, _, rfl, p, n, xs.map V.str, c + 3, rfl, hp1, by omega, SqL.of (b1 _ _ npn hn), npn, by rw [List.length_map]; omega, by rw [List.length_map]; omega, fun x H' mx hp' b' => ?_⟩
        obtain ⟨z, mz, rfl⟩ := List.mem_map.mp mx
        exact k (.str z) [z] H' TrR.leaf (fun y hy => by rw [List.mem_singleton.mp hy]; exact mz) (Nat.le_refl _) (Nat.one_le_pow _ _ (by decide)) (hp'.mono (by show c + 3 + 3 ≤ c + (6 + 3 * costT d); omega)) (b1.trans b')
      | false =>
        refine iteF ?_
        refine ⟨_, rfl, p, 3, c + 3, rfl, by decide, by decide, hp1, by omega, fun q2 H2 q20 q21 hp2 b2 => ⟨_, _, rfl, rfl, ?_⟩⟩
        obtain ⟨N, hN⟩ : ∃ N : Nat, (1 : Int) + q2 = (N : Int) := ⟨((1 : Int) + q2).toNat, by omega⟩
        have N1 : 1 ≤ N := by omega
        have N3 : N ≤ 3 := by omega
        have b02 := b1.trans b2
        have hn2 := b02 _ _ npn hn
        refine ⟨(N : Int), (by show [V.int ((1 : Int) + q2)] = _; rw [hN]), by omega, by omega, fun D' nD => lc_range (lo := 0) (n := N) (fun i H' => ∃ (vs : List V) (lss : List (List Str)), H' D' = some (.lst vs) ∧ vs.length = i ∧ lss.length = i ∧ (∀ (j : Nat) (x : V) (l : List Str), vs[j]? = some x → lss[j]? = some l → TrP (fun a => H2 a = none ∧ a ≠ D') H' d x l) ∧ (∀ l ∈ lss, (∀ z ∈ l, z ∈ xs) ∧ 1 ≤ l.length ∧ l.length ≤ 3 ^ d) ∧ Purse H' p (c + 6 + costT d * i) ∧ But p H2 H')
          ⟨[], [], upd_same, rfl, rfl, (fun j x l h => nomatch h), (fun l h => nomatch h), (hp2.same (sn nD)).mono (by omega), But.same (sn nD)⟩ ?_ ?_⟩
        · rintro i H' hi ⟨vs, lss, w1, lv, ls_, wt, wl, wp, wb⟩
          have e1 : But p H H' := b02.trans wb
          have npD : D' ≠ p := fun e => by
            obtain ⟨v, hv, _⟩ := hp2
            rw [← e, nD] at hv
            cases hv
          have i2 := Nat.mul_le_mul_left (costT d) (show i ≤ 2 by omega)
          refine ⟨rfl, _, rfl, _, rfl, _, rfl, _, _, rfl, rfl, p, n, c + 6 + costT d * i, xs, (by show [V.ref p, V.ref n, V.int (((d + 1 : Nat) : Int) - 1)] = _; rw [show (((d + 1 : Nat) : Int) - 1) = (d : Int) by omega]), wp, by omega, e1 _ _ npn hn, l1, l100, fun x l H'' tx tsub t1 t3 hp'' b'' => ?_⟩
          refine ⟨vs, b'' _ _ npD w1, small1000 (by omega), vs ++ [x], lss ++ [l], upd_same, by rw [List.length_append, lv]; rfl, by rw [List.length_append, ls_]; rfl, ?_, ?_, ?_, ?_⟩
          · rintro j y m hy hm
            by_cases e : j < i
            · rw [List.getElem?_append_left (by omega)] at hy hm
              refine TrP.keep (fun a h _ => h) (fun a o h ho => ?_) (wt j y m hy hm)
              rw [upd_ne h.2]
              exact b'' _ _ (fun e => by
                obtain ⟨v, hv, _⟩ := hp2
                rw [← e, h.1] at hv
                cases hv) ho
            · have e2 : j = i := by
                have := (List.getElem?_eq_some_iff.mp hy).1
                rw [List.length_append, lv, List.length_singleton] at this
                omega
              subst e2
              rw [List.getElem?_append_right (by omega), lv, Nat.sub_self] at hy
              rw [List.getElem?_append_right (by omega), ls_, Nat.sub_self] at hm
              obtain rfl := Option.some.inj hy
              obtain rfl := Option.some.inj hm
              refine TrP.keep (fun a h _ => ⟨new_back wb wp h, fun e => by rw [e, w1] at h; cases h⟩) (fun a o h ho => ?_) tx.trP
              rw [upd_ne (fun e => by rw [e, w1] at h; cases h)]
              exact ho
          · intro m hm
            rcases List.mem_append.mp hm with h | h
            · exact wl m h
            · rw [List.mem_singleton.mp h]
              exact ⟨tsub, t1, t3⟩
          · have hq : Purse (upd H'' D' (.lst (vs ++ [x]))) p (c + 6 + costT d * i + costT d) := by
              obtain ⟨v, e, l⟩ := hp''
              exact ⟨v, by rw [upd_ne (Ne.symm npD)]; exact e, l⟩
            exact hq.mono (by rw [Nat.mul_succ]; omega)
          · exact fun b o nb hb => by
              rw [upd_ne (fun e => by rw [e, nD] at hb; cases hb)]
              exact (wb.trans b'') _ _ nb hb
        · rintro H' ⟨vs, lss, w1, lv, ls_, wt, wl, wp, wb⟩
          have n2 := Nat.mul_le_mul_left (costT d) N3
          refine k (.ref D') lss.flatten H' (.inr ⟨D', vs, lss, rfl, new_back b02 hp2 nD, w1, by omega, by omega, by omega, fun j x l hx hl => TrP.keep (fun a h _ => ⟨new_back b02 hp2 h.1, h.2⟩) (fun a o _ ho => ho) (wt j x l hx hl), rfl⟩) (fun z hz => ?_) ?_ ?_ (wp.mono (by show c + 6 + costT d * N ≤ c + (6 + 3 * costT d); omega)) (b02.trans wb)
          · obtain ⟨l, hl, hz⟩ := List.mem_flatten.mp hz
            exact (wl l hl).1 z hz
          · obtain ⟨l, hl⟩ := List.exists_mem_of_length_pos (show 0 < lss.length by omega)
            obtain ⟨z, hz⟩ := List.exists_mem_of_length_pos (show 0 < l.length from (wl l hl).2.1)
            exact List.length_pos_of_mem (List.mem_flatten.mpr ⟨l, hl, hz⟩)
          · have h1 := flat_le fun l hl => (wl l hl).2.2
            have h2 := Nat.mul_le_mul_right (3 ^ d) (show lss.length ≤ 3 by omega)
            rw [Nat.pow_succ, Nat.mul_comm]
            omega
end
end K24

set_option maxHeartbeats 8000000
namespace K24
open PySem PySem.Spec PyProof.Rows L2 G1
/-- all fields, as they are told -/
def af : List Str → List (List Str)
  | [] => []
  | x :: xs => ([[x]] ++ (af xs).map fun f => [x] ++ f) ++ af xs
theorem af_len : ∀ xs : List Str, (af xs).length + 1 = 2 ^ xs.length
  | [] => rfl
  | x :: xs => by
    have h := af_len xs
    show (([[x]] ++ (af xs).map fun f => [x] ++ f) ++ af xs).length + 1 = _
    rw [List.length_append, List.length_append, List.length_map, show (x :: xs).length = xs.length + 1 from rfl, Nat.pow_succ]
    show 1 + (af xs).length + (af xs).length + 1 = _
    omega
theorem af_sub : ∀ {xs fs : List Str}, fs ∈ af xs → fs.Sublist xs ∧ 1 ≤ fs.length
  | [], _, h => nomatch h
  | x :: xs, fs, h => by
    rcases List.mem_append.mp (show fs ∈ ([[x]] ++ (af xs).map fun f => [x] ++ f) ++ af xs from h) with h | h
    · rcases List.mem_append.mp h with h | h
      · rw [List.mem_singleton.mp h]
        exact ⟨(List.nil_sublist xs).cons_cons x, Nat.le_refl _⟩
      · obtain ⟨f, hf, rfl⟩ := List.mem_map.mp h
        exact ⟨(af_sub hf).1.cons_cons x, by show 1 ≤ f.length + 1; omega⟩
    · exact ⟨(af_sub h).1.cons x, (af_sub h).2⟩
theorem af_drop {xs : List Str} {i : Nat} {x : Str} (hi : i < xs.length) (h : xs[xs.length - 1 - i]? = some x) : af (xs.drop (xs.length - (i + 1))) = ([[x]] ++ (af (xs.drop (xs.length - i))).map fun f => [x] ++ f) ++ af (xs.drop (xs.length - i)) := by
  obtain ⟨h1, h2⟩ := List.getElem?_eq_some_iff.mp h
  have e : xs.drop (xs.length - (i + 1)) = x :: xs.drop (xs.length - i) := by
    rw [show xs.length - (i + 1) = xs.length - 1 - i by omega, List.drop_eq_getElem_cons h1, h2]
    rw [show xs.length - 1 - i + 1 = xs.length - i by omega]
  rw [e]
  rfl
def spAllF : Sp := fun vs H Q _ => ∃ (n : Addr) (xs : List Str), vs = [.ref n] ∧ H n = some (.lst (xs.map V.str)) ∧ xs.length ≤ 6 ∧
  ∀ (D : Addr) (as : List Addr) (H' : Hp), Same H H' → H D = none → H' D = some (.lst (as.map V.ref)) → RowsAt H' as (af xs) → Q (.ref D) H'
section
variable {P : Program} {w : World} {K : PySem.W.Frag} {mg : Str → Option Value} {base : Heap} {C : Addr}
end
end K24

set_option maxHeartbeats 8000000
namespace K24
open PySem PySem.Spec PyProof.Rows L2 G1
/-- pairs of a field and what belongs to it, at such places -/
inductive TabP (Pd : Addr → Prop) (H : Hp) (g : List Str → List Str) : List Addr → List (List Str) → Prop
  | nil : TabP Pd H g [] []
  | cons {t a b : Addr} {fs : List Str} {ts : List Addr} {L : List (List Str)} : Pd t → Pd a → Pd b → H t = some (.tup [.ref a, .ref b]) → H a = some (.lst (fs.map V.str)) → H b = some (.lst ((g fs).map V.str)) → TabP Pd H g ts L → TabP Pd H g (t :: ts) (fs :: L)
theorem TabP.keep {Pd Pd' : Addr → Prop} {H H' : Hp} {g : List Str → List Str} (p : ∀ a, Pd a → Pd' a) (s : ∀ a o, Pd a → H a = some o → H' a = some o) {ts : List Addr} {L : List (List Str)} (h : TabP Pd H g ts L) : TabP Pd' H' g ts L := by
  induction h with
  | nil => exact .nil
  | cons p1 p2 p3 h1 h2 h3 _ ih => exact .cons (p _ p1) (p _ p2) (p _ p3) (s _ _ p1 h1) (s _ _ p2 h2) (s _ _ p3 h3) ih
theorem TabP.snoc {Pd : Addr → Prop} {H : Hp} {g : List Str → List Str} {t a b : Addr} {fs : List Str} {ts : List Addr} {L : List (List Str)} (h : TabP Pd H g ts L) (p1 : Pd t) (p2 : Pd a) (p3 : Pd b) (h1 : H t = some (.tup [.ref a, .ref b])) (h2 : H a = some (.lst (fs.map V.str))) (h3 : H b = some (.lst ((g fs).map V.str))) : TabP Pd H g (ts ++ [t]) (L ++ [fs]) := by
  induction h with
  | nil => exact .cons p1 p2 p3 h1 h2 h3 .nil
  | cons q1 q2 q3 k1 k2 k3 _ ih => exact .cons q1 q2 q3 k1 k2 k3 ih
theorem TabP.len {Pd : Addr → Prop} {H : Hp} {g : List Str → List Str} {ts : List Addr} {L : List (List Str)} (h : TabP Pd H g ts L) : ts.length = L.length := by
  induction h with
  | nil => rfl
  | cons _ _ _ _ _ _ _ ih => rw [List.length_cons, List.length_cons, ih]
abbrev TabAt (H : Hp) (g : List Str → List Str) (ts : List Addr) (L : List (List Str)) : Prop := TabP (fun _ => True) H g ts L
theorem TabP.same {H H' : Hp} {g : List Str → List Str} {ts : List Addr} {L : List (List Str)} (h : TabAt H g ts L) (s : Same H H') : TabAt H' g ts L := h.keep (fun _ h => h) fun a o _ => s a o
/-- a table as data -/
def tabD (g : List Str → List Str) (L : List (List Str)) : PyData := .list (L.map fun fs => .tuple [rd fs, rd (g fs)])
theorem TabP.dp {K : PySem.W.Frag} {Pd : Addr → Prop} {H : Hp} {g : List Str → List Str} {D : Addr} {ts : List Addr} {L : List (List Str)} (hD : H D = some (.lst (ts.map V.ref))) (h : TabP Pd H g ts L) : Dp K H (.ref D) (tabD g L) := by
  refine .lst (SqL.of hD) ?_
  clear hD
  induction h with
  | nil => exact .nil
  | cons _ _ _ h1 h2 h3 _ ih => exact .cons (.tup (SqT.of h1) (.cons (dp_row h2) (.cons (dp_row h3) .nil))) ih
def spTabOf (C : Addr) : Sp := fun vs H Q _ => ∃ (a : Addr) (xs : List Str) (rs : List (List Str)), vs = [.ref a] ∧ PanF H C a xs rs ∧ Rw xs rs ∧ xs.length ≤ 5 ∧
  ∀ (D : Addr) (ts : List Addr) (H' : Hp), Same H H' → H D = none → H' D = some (.lst (ts.map V.ref)) → TabAt H' (cardsL xs rs) ts (af xs) → Q (.ref D) H'
def spFinT (C : Addr) : Sp := fun vs H Q _ => ∃ (a b : Addr) (xs : List Str) (rs us : List (List Str)), vs = [.ref a, .ref b] ∧ Duo H C a b xs rs us ∧ xs.length ≤ 5 ∧
  ∀ (D : Addr) (ts : List Addr) (H' : Hp), Same H H' → H D = none → H' D = some (.lst (ts.map V.ref)) → TabAt H' (finL xs rs us) ts (af xs) → Q (.ref D) H'
section
variable {P : Program} {w : World} {K : PySem.W.Frag} {mg : Str → Option Value} {base : Heap} {C : Addr}
end
end K24

set_option maxHeartbeats 8000000
namespace K24
open PySem PySem.Spec PyProof.Rows L2 G1
/-! ### trees with their shape: who goes on, and each heat -/
inductive PT where
  | leaf (z : Str) : PT
  | node (ts : List PT) : PT
mutual
def lvs : PT → List Str
  | .leaf z => [z]
  | .node ts => lvsL ts
def lvsL : List PT → List Str
  | [] => []
  | t :: ts => lvs t ++ lvsL ts
end
mutual
/-- those who go on -/
def gives (xs : List Str) (rs : List (List Str)) : PT → List Str
  | .leaf z => [z]
  | .node ts => cardsL xs rs (fldL xs (givesL xs rs ts))
def givesL (xs : List Str) (rs : List (List Str)) : List PT → List Str
  | [] => []
  | t :: ts => gives xs rs t ++ givesL xs rs ts
end
mutual
/-- the fields of the heats, in the order in which they end -/
def told (xs : List Str) (rs : List (List Str)) : PT → List (List Str)
  | .leaf _ => []
  | .node ts => toldL xs rs ts ++ [fldL xs (givesL xs rs ts)]
def toldL (xs : List Str) (rs : List (List Str)) : List PT → List (List Str)
  | [] => []
  | t :: ts => told xs rs t ++ toldL xs rs ts
end
mutual
def treeD : PT → PyData
  | .leaf z => .str z
  | .node ts => .list (treeDL ts)
def treeDL : List PT → List PyData
  | [] => []
  | t :: ts => treeD t :: treeDL ts
end
theorem lvsL_eq : ∀ ts : List PT, lvsL ts = (ts.map lvs).flatten
  | [] => by simp [lvsL]
  | t :: ts => by simp [lvsL, lvsL_eq ts]
theorem givesL_eq {xs : List Str} {rs : List (List Str)} : ∀ ts : List PT, givesL xs rs ts = (ts.map (gives xs rs)).flatten
  | [] => by simp [givesL]
  | t :: ts => by simp [givesL, givesL_eq ts]
theorem toldL_eq {xs : List Str} {rs : List (List Str)} : ∀ ts : List PT, toldL xs rs ts = (ts.map (told xs rs)).flatten
  | [] => by simp [toldL]
  | t :: ts => by simp [toldL, toldL_eq ts]
theorem treeDL_eq : ∀ ts : List PT, treeDL ts = ts.map treeD
  | [] => by simp [treeDL]
  | t :: ts => by simp [treeDL, treeDL_eq ts]
theorem take_one {α : Type} {ts : List α} {i : Nat} {t : α} (h : ts[i]? = some t) : ts.take (i + 1) = ts.take i ++ [t] := by rw [List.take_succ, h]; rfl
theorem givesL_take {xs : List Str} {rs : List (List Str)} {ts : List PT} {i : Nat} {t : PT} (h : ts[i]? = some t) : givesL xs rs (ts.take (i + 1)) = givesL xs rs (ts.take i) ++ gives xs rs t := by
  rw [take_one h, givesL_eq, givesL_eq, List.map_append, List.flatten_append]
  simp
theorem toldL_take {xs : List Str} {rs : List (List Str)} {ts : List PT} {i : Nat} {t : PT} (h : ts[i]? = some t) : toldL xs rs (ts.take (i + 1)) = toldL xs rs (ts.take i) ++ told xs rs t := by
  rw [take_one h, toldL_eq, toldL_eq, List.map_append, List.flatten_append]
  simp
theorem lvsL_take {ts : List PT} {i : Nat} {t : PT} (h : ts[i]? = some t) : lvsL (ts.take (i + 1)) = lvsL (ts.take i) ++ lvs t := by
  rw [take_one h, lvsL_eq, lvsL_eq, List.map_append, List.flatten_append]
  simp
theorem lvsL_le {ts : List PT} {i : Nat} {t : PT} (h : ts[i]? = some t) : (lvsL (ts.take i)).length + (lvs t).length ≤ (lvsL ts).length := by
  have e : ts = ts.take (i + 1) ++ ts.drop (i + 1) := (List.take_append_drop _ _).symm
  have q : lvsL ts = lvsL (ts.take (i + 1)) ++ lvsL (ts.drop (i + 1)) := by
    rw [lvsL_eq, lvsL_eq, lvsL_eq, ← List.flatten_append, ← List.map_append, List.take_append_drop]
  rw [q, List.length_append, lvsL_take h, List.length_append]
  omega
theorem lvs_in {ts : List PT} {i : Nat} {t : PT} (h : ts[i]? = some t) : ∀ z ∈ lvs t, z ∈ lvsL ts := fun z hz => by
  rw [lvsL_eq]
  exact List.mem_flatten.mpr ⟨lvs t, List.mem_map.mpr ⟨t, List.mem_of_getElem? h, rfl⟩, hz⟩
/-- a tree at such places, of at most so many levels -/
def TrS (Pd : Addr → Prop) (H : Hp) : Nat → V → PT → Prop
  | 0, v, T => ∃ z, v = .str z ∧ T = .leaf z
  | d + 1, v, T => (∃ z, v = .str z ∧ T = .leaf z) ∨ ∃ (a : Addr) (vs : List V) (ts : List PT), v = .ref a ∧ Pd a ∧ H a = some (.lst vs) ∧ 1 ≤ vs.length ∧ vs.length ≤ 60 ∧ ts.length = vs.length ∧ (∀ (i : Nat) (x : V) (t : PT), vs[i]? = some x → ts[i]? = some t → TrS Pd H d x t) ∧ T = .node ts
theorem TrS.leaf {Pd : Addr → Prop} {H : Hp} {z : Str} : ∀ {d : Nat}, TrS Pd H d (.str z) (.leaf z)
  | 0 => ⟨z, rfl, rfl⟩
  | _ + 1 => .inl ⟨z, rfl, rfl⟩
theorem TrS.keep {Pd Pd' : Addr → Prop} {H H' : Hp} (p : ∀ a, Pd a → H a ≠ none → Pd' a) (s : ∀ a o, Pd a → H a = some o → H' a = some o) : ∀ {d : Nat} {v : V} {T : PT}, TrS Pd H d v T → TrS Pd' H' d v T
  | 0, _, _, h => h
  | d + 1, _, _, .inl h => .inl h
  | d + 1, _, _, .inr ⟨a, vs, ts, e, pa, h, l1, l2, l3, f, q⟩ => .inr ⟨a, vs, ts, e, p a pa (by rw [h]; exact fun e => nomatch e), s _ _ pa h, l1, l2, l3, fun i x t hx ht => TrS.keep p s (f i x t hx ht), q⟩
abbrev TrT (H : Hp) (d : Nat) (v : V) (T : PT) : Prop := TrS (fun _ => True) H d v T
theorem TrS.any {Pd : Addr → Prop} {H : Hp} {d : Nat} {v : V} {T : PT} (h : TrS Pd H d v T) : TrT H d v T := h.keep (fun _ _ _ => trivial) fun _ _ _ e => e
theorem TrS.same {H H' : Hp} {d : Nat} {v : V} {T : PT} (h : TrT H d v T) (s : Same H H') : TrT H' d v T := h.keep (fun _ _ _ => trivial) fun a o _ e => s a o e
theorem TrS.up {Pd : Addr → Prop} {H : Hp} : ∀ {d e : Nat} {v : V} {T : PT}, d ≤ e → TrS Pd H d v T → TrS Pd H e v T
  | 0, e, _, _, _, ⟨z, rfl, rfl⟩ => TrS.leaf
  | d + 1, 0, _, _, h, _ => by omega
  | d + 1, e + 1, _, _, _, .inl h => .inl h
  | d + 1, e + 1, _, _, h, .inr ⟨a, vs, ts, q, pa, ha, l1, l2, l3, f, r⟩ => .inr ⟨a, vs, ts, q, pa, ha, l1, l2, l3, fun i x t hx ht => TrS.up (by omega) (f i x t hx ht), r⟩
theorem TrS.trP {Pd : Addr → Prop} {H : Hp} : ∀ {d : Nat} {v : V} {T : PT}, TrS Pd H d v T → TrP Pd H d v (lvs T)
  | 0, _, _, ⟨z, rfl, rfl⟩ => ⟨z, rfl, by simp [lvs]⟩
  | d + 1, _, _, .inl ⟨z, e, q⟩ => .inl ⟨z, e, by rw [q]; simp [lvs]⟩
  | d + 1, _, _, .inr ⟨a, vs, ts, e, pa, h, l1, l2, l3, f, q⟩ => .inr ⟨a, vs, ts.map lvs, e, pa, h, l1, l2, by rw [List.length_map]; exact l3, fun i x l hx hl => by
      rw [List.getElem?_map] at hl
      obtain ⟨t, ht, rfl⟩ := Option.map_eq_some_iff.mp hl
      exact TrS.trP (f i x t hx ht), by rw [q, lvs, lvsL_eq]⟩
theorem pick_all {α β : Type} {R : α → β → Prop} : ∀ {as : List α}, (∀ a ∈ as, ∃ b, R a b) → ∃ bs : List β, bs.length = as.length ∧ ∀ (i : Nat) (a : α) (b : β), as[i]? = some a → bs[i]? = some b → R a b
  | [], _ => ⟨[], rfl, fun i a b h => by simp at h⟩
  | a :: as, h => by
    obtain ⟨b, hb⟩ := h a (.head _)
    obtain ⟨bs, l, f⟩ := pick_all fun x hx => h x (.tail _ hx)
    refine ⟨b :: bs, by simp [l], fun i x y hx hy => ?_⟩
    cases i with
    | zero =>
      obtain rfl := Option.some.inj hx
      obtain rfl := Option.some.inj hy
      exact hb
    | succ i => exact f i x y (by simpa using hx) (by simpa using hy)
theorem list_ext {α : Type} {as bs : List α} (l : as.length = bs.length) (h : ∀ (i : Nat) (a b : α), as[i]? = some a → bs[i]? = some b → a = b) : as = bs := by
  refine List.ext_getElem? fun i => ?_
  by_cases q : i < as.length
  · have ha := List.getElem?_eq_getElem q
    have hb := List.getElem?_eq_getElem (show i < bs.length by omega)
    rw [ha, hb, h i _ _ ha hb]
  · rw [List.getElem?_eq_none (by omega), List.getElem?_eq_none (by omega)]
theorem TrP.tree {Pd : Addr → Prop} {H : Hp} : ∀ {d : Nat} {v : V} {ls : List Str}, TrP Pd H d v ls → ∃ T, TrS Pd H d v T ∧ lvs T = ls
  | 0, _, _, ⟨z, e, q⟩ => ⟨.leaf z, ⟨z, e, rfl⟩, by rw [q]; simp [lvs]⟩
  | d + 1, _, _, .inl ⟨z, e, q⟩ => ⟨.leaf z, .inl ⟨z, e, rfl⟩, by rw [q]; simp [lvs]⟩
  | d + 1, _, _, .inr ⟨a, vs, lss, e, pa, h, l1, l2, l3, f, q⟩ => by
    obtain ⟨ts, lt, ft⟩ := pick_all (R := fun (p : V × List Str) (T : PT) => TrS Pd H d p.1 T ∧ lvs T = p.2) (as := vs.zip lss) fun p hp => by
      obtain ⟨i, hi⟩ := List.mem_iff_getElem?.mp hp
      rw [List.getElem?_zip_eq_some] at hi
      exact TrP.tree (f i p.1 p.2 hi.1 hi.2)
    rw [List.length_zip] at lt
    have zat : ∀ (i : Nat) (x : V) (l : List Str), vs[i]? = some x → lss[i]? = some l → (vs.zip lss)[i]? = some (x, l) := fun i x l h1 h2 => by
      rw [List.getElem?_zip_eq_some]
      exact ⟨h1, h2⟩
    refine ⟨.node ts, .inr ⟨a, vs, ts, e, pa, h, l1, l2, by omega, fun i x t hx ht => ?_, rfl⟩, ?_⟩
    · obtain ⟨l, hl⟩ : ∃ l, lss[i]? = some l := ⟨_, List.getElem?_eq_getElem (by have := (List.getElem?_eq_some_iff.mp hx).1; omega)⟩
      exact (ft i _ _ (zat i x l hx hl) ht).1
    · rw [lvs, lvsL_eq, q]
      congr 1
      refine list_ext (by rw [List.length_map]; omega) fun i a b ha hb => ?_
      rw [List.getElem?_map] at ha
      obtain ⟨t, ht, rfl⟩ := Option.map_eq_some_iff.mp ha
      obtain ⟨x, hx⟩ : ∃ x, vs[i]? = some x := ⟨_, List.getElem?_eq_getElem (by have := (List.getElem?_eq_some_iff.mp hb).1; omega)⟩
      exact (ft i _ _ (zat i x b hx hb) ht).2
theorem TrS.l1 {Pd : Addr → Prop} {H : Hp} : ∀ {d : Nat} {v : V} {T : PT}, TrS Pd H d v T → 1 ≤ (lvs T).length
  | 0, _, _, ⟨z, rfl, rfl⟩ => by simp [lvs]
  | d + 1, _, _, .inl ⟨z, _, q⟩ => by rw [q]; simp [lvs]
  | d + 1, _, _, .inr ⟨a, vs, ts, e, pa, h, l1, l2, l3, f, q⟩ => by
    obtain ⟨x, hx⟩ : ∃ x, vs[0]? = some x := ⟨_, List.getElem?_eq_getElem l1⟩
    obtain ⟨t, ht⟩ : ∃ t, ts[0]? = some t := ⟨_, List.getElem?_eq_getElem (by omega)⟩
    have q1 := TrS.l1 (f 0 x t hx ht)
    have q2 := lvsL_le ht
    rw [q, lvs]
    omega
/-- no more heats than levels for each name -/
theorem TrS.many {Pd : Addr → Prop} {H : Hp} {xs : List Str} {rs : List (List Str)} : ∀ {d : Nat} {v : V} {T : PT}, TrS Pd H d v T → (told xs rs T).length ≤ d * (lvs T).length
  | 0, _, _, ⟨z, rfl, rfl⟩ => by simp [told]
  | d + 1, _, _, .inl ⟨z, _, q⟩ => by rw [q]; simp [told]
  | d + 1, v, T, .inr ⟨a, vs, ts, e, pa, h, l1, l2, l3, f, q⟩ => by
    have one : 1 ≤ (lvs T).length := TrS.l1 (d := d + 1) (v := v) (.inr ⟨a, vs, ts, e, pa, h, l1, l2, l3, f, q⟩)
    have key : ∀ i, i ≤ ts.length → (toldL xs rs (ts.take i)).length ≤ d * (lvsL (ts.take i)).length := fun i => by
      induction i with
      | zero => intro _; simp [toldL]
      | succ i ih =>
        intro hi
        obtain ⟨t, ht⟩ : ∃ t, ts[i]? = some t := ⟨_, List.getElem?_eq_getElem (by omega)⟩
        obtain ⟨x, hx⟩ : ∃ x, vs[i]? = some x := ⟨_, List.getElem?_eq_getElem (by omega)⟩
        have q1 := TrS.many (xs := xs) (rs := rs) (f i x t hx ht)
        have q2 := ih (by omega)
        rw [toldL_take ht, lvsL_take ht, List.length_append, List.length_append, Nat.mul_add]
        omega
    have q1 := key ts.length (Nat.le_refl _)
    rw [List.take_length] at q1
    subst q
    rw [lvs] at one ⊢
    rw [told, List.length_append, List.length_singleton, Nat.succ_mul]
    omega
theorem mem_fld {xs ls : List Str} (sub : ∀ z ∈ ls, z ∈ xs) {z : Str} : z ∈ fldL xs ls ↔ z ∈ ls := by
  rw [fldL, List.mem_filter, decide_eq_true_iff]
  exact ⟨fun h => h.2, fun h => ⟨sub z h, h⟩⟩
theorem fst_mem_eq {fs gs : List Str} (h : ∀ z, z ∈ fs ↔ z ∈ gs) {r : List Str} : fst? fs r = fst? gs r := by
  unfold fst?
  congr 1
  funext z
  rw [decide_eq_decide]
  exact h z
theorem cards_mem {xs fs gs : List Str} {rs : List (List Str)} (pr : ∀ r ∈ rs, r.Perm xs) (h : ∀ z, z ∈ fs ↔ z ∈ gs) : cardsL xs rs fs = cardsL xs rs gs := cards_same pr fun r _ => fst_mem_eq h
theorem cards_one {xs : List Str} {rs : List (List Str)} (so : sortedS xs = true) (nd : xs.Nodup) (pr : ∀ r ∈ rs, r.Perm xs) (r1 : 1 ≤ rs.length) {z : Str} (hz : z ∈ xs) : cardsL xs rs [z] = [z] := by
  refine sorted_ext (sorted_filter so) (pw_sorted (List.pairwise_singleton _ _)) (nd.sublist List.filter_sublist) (by simp) fun y => ?_
  rw [mem_cardsL pr, List.mem_singleton]
  constructor
  · rintro ⟨r, hr, e⟩
    exact List.mem_singleton.mp (fst_app e).1
  · rintro rfl
    obtain ⟨r, hr⟩ := List.exists_mem_of_length_pos r1
    obtain ⟨u, hu⟩ := fst_ex (pr r hr) (gs := [y]) ⟨y, List.mem_singleton.mpr rfl, hz⟩
    have := List.mem_singleton.mp (fst_app hu).1
    subst this
    exact ⟨r, hr, hu⟩
/-- those who go on are the cards of the tree's field -/
theorem TrS.gives {Pd : Addr → Prop} {H : Hp} {xs : List Str} {rs : List (List Str)} (ra : Rw xs rs) : ∀ {d : Nat} {v : V} {T : PT}, TrS Pd H d v T → (∀ z ∈ lvs T, z ∈ xs) → K24.gives xs rs T = cardsL xs rs (fldL xs (lvs T))
  | 0, _, _, ⟨z, rfl, rfl⟩, sub => by
    have hz := sub z (by simp [lvs])
    rw [cards_mem ra.pr (fun y => mem_fld sub), lvs, K24.gives]
    exact (cards_one ra.so ra.nd ra.pr ra.r1 hz).symm
  | d + 1, _, _, .inl ⟨z, _, q⟩, sub => by
    subst q
    have hz := sub z (by simp [lvs])
    rw [cards_mem ra.pr (fun y => mem_fld sub), lvs, K24.gives]
    exact (cards_one ra.so ra.nd ra.pr ra.r1 hz).symm
  | d + 1, _, _, .inr ⟨a, vs, ts, e, pa, h, l1, l2, l3, f, q⟩, sub => by
    subst q
    rw [lvs] at sub
    have each : ∀ t ∈ ts, K24.gives xs rs t = cardsL xs rs (fldL xs (lvs t)) ∧ ∀ z ∈ lvs t, z ∈ lvsL ts := fun t ht => by
      obtain ⟨i, hi⟩ := List.mem_iff_getElem?.mp ht
      obtain ⟨x, hx⟩ : ∃ x, vs[i]? = some x := ⟨_, List.getElem?_eq_getElem (by have := (List.getElem?_eq_some_iff.mp hi).1; omega)⟩
      exact ⟨TrS.gives ra (f i x t hx hi) fun z hz => sub z (lvs_in hi z hz), lvs_in hi⟩
    have down : ∀ z ∈ givesL xs rs ts, z ∈ lvsL ts := fun z hz => by
      rw [givesL_eq] at hz
      obtain ⟨_, hm, hz⟩ := List.mem_flatten.mp hz
      obtain ⟨t, ht, rfl⟩ := List.mem_map.mp hm
      obtain ⟨e1, e2⟩ := each t ht
      rw [e1] at hz
      exact e2 z ((mem_fld fun y hy => sub y (e2 y hy)).mp (cards_in ra.pr hz))
    rw [K24.gives, lvs, cards_mem ra.pr (fun y => mem_fld fun z hz => sub z (down z hz)), cards_mem ra.pr (fun y => mem_fld sub)]
    obtain ⟨z0, hz0⟩ : ∃ z0, z0 ∈ lvsL ts := by
      have q1 := TrS.l1 (H := H) (Pd := Pd) (d := d + 1) (v := .ref a) (T := .node ts) (.inr ⟨a, vs, ts, rfl, pa, h, l1, l2, l3, f, rfl⟩)
      rw [lvs] at q1
      exact List.exists_mem_of_length_pos q1
    refine cards_same ra.pr fun r hr => ?_
    obtain ⟨y, hy⟩ := fst_ex (ra.pr r hr) (gs := lvsL ts) ⟨z0, hz0, sub z0 hz0⟩
    have yl := (fst_app hy).1
    rw [hy]
    rw [lvsL_eq] at yl
    obtain ⟨_, hm, yt⟩ := List.mem_flatten.mp yl
    obtain ⟨t, ht, rfl⟩ := List.mem_map.mp hm
    obtain ⟨e1, e2⟩ := each t ht
    refine fst_down down hy ?_
    rw [givesL_eq]
    refine List.mem_flatten.mpr ⟨_, List.mem_map.mpr ⟨t, ht, rfl⟩, ?_⟩
    rw [e1, mem_cardsL ra.pr]
    refine ⟨r, hr, ?_⟩
    rw [fst_mem_eq fun z => mem_fld fun z hz => sub z (e2 z hz)]
    exact fst_down e2 hy yt
/-- a tree as data -/
theorem TrS.dp {K : PySem.W.Frag} {Pd : Addr → Prop} {H : Hp} : ∀ {d : Nat} {v : V} {T : PT}, TrS Pd H d v T → Dp K H v (treeD T)
  | 0, _, _, ⟨z, rfl, rfl⟩ => by rw [treeD]; exact .str z
  | d + 1, _, _, .inl ⟨z, e, q⟩ => by rw [e, q, treeD]; exact .str z
  | d + 1, _, _, .inr ⟨a, vs, ts, e, pa, h, l1, l2, l3, f, q⟩ => by
    rw [e, q, treeD, treeDL_eq]
    refine .lst (SqL.of h) ?_
    have key : ∀ (us : List V) (ks : List PT), ks.length = us.length → (∀ (i : Nat) (x : V) (t : PT), us[i]? = some x → ks[i]? = some t → Dp K H x (treeD t)) → DpAll K H us (ks.map treeD) := fun us => by
      induction us with
      | nil =>
        intro ks l _
        have : ks = [] := List.eq_nil_of_length_eq_zero l
        subst this
        exact .nil
      | cons u us ih =>
        intro ks l g
        cases ks with
        | nil => simp at l
        | cons k ks => exact .cons (g 0 u k rfl rfl) (ih ks (by simpa using l) fun i x t hx ht => g (i + 1) x t (by simpa using hx) (by simpa using ht))
    exact key vs ts l3 fun i x t hx ht => TrS.dp (f i x t hx ht)
theorem fine_map {g : PT → PyData} {n : Nat} : ∀ {ts : List PT}, (∀ t ∈ ts, ∃ w, FineN (g t) n w) → ∃ w, FineAll (ts.map g) n w
  | [], _ => ⟨0, .nil n 0⟩
  | t :: ts, h => by
    obtain ⟨w, e⟩ := fine_map fun x hx => h x (.tail _ hx)
    obtain ⟨v, q⟩ := h t (.head _)
    exact ⟨_, .cons q e⟩
theorem TrS.fine {Pd : Addr → Prop} {H : Hp} : ∀ {d : Nat} {v : V} {T : PT}, TrS Pd H d v T → (∀ z ∈ lvs T, Nm z) → ∃ w, FineN (treeD T) d w
  | 0, _, _, ⟨z, rfl, rfl⟩, nm => ⟨8, by rw [treeD]; exact fn_str 0 (nm z (by simp [lvs]))⟩
  | d + 1, _, _, .inl ⟨z, e, q⟩, nm => ⟨8, by rw [q] at nm ⊢; rw [treeD]; exact fn_str _ (nm z (by simp [lvs]))⟩
  | d + 1, _, _, .inr ⟨a, vs, ts, e, pa, h, l1, l2, l3, f, q⟩, nm => by
    subst q
    rw [lvs] at nm
    rw [treeD, treeDL_eq]
    obtain ⟨w, g⟩ := fine_map (g := treeD) (n := d) (ts := ts) fun t ht => by
      obtain ⟨i, hi⟩ := List.mem_iff_getElem?.mp ht
      obtain ⟨x, hx⟩ : ∃ x, vs[i]? = some x := ⟨_, List.getElem?_eq_getElem (by have := (List.getElem?_eq_some_iff.mp hi).1; omega)⟩
      exact TrS.fine (f i x t hx hi) fun z hz => nm z (lvs_in hi z hz)
    exact ⟨w, g.list⟩
end K24

set_option maxHeartbeats 8000000
namespace K24
open PySem PySem.Spec PyProof.Rows L2 G1
theorem TabP.app {Pd : Addr → Prop} {H : Hp} {g : List Str → List Str} {ts us : List Addr} {L M : List (List Str)} (h : TabP Pd H g ts L) (k : TabP Pd H g us M) : TabP Pd H g (ts ++ us) (L ++ M) := by
  induction h with
  | nil => exact k
  | cons q1 q2 q3 k1 k2 k3 _ ih => exact .cons q1 q2 q3 k1 k2 k3 ih
theorem TabP.any {Pd : Addr → Prop} {H : Hp} {g : List Str → List Str} {ts : List Addr} {L : List (List Str)} (h : TabP Pd H g ts L) : TabAt H g ts L := h.keep (fun _ _ => trivial) fun _ _ _ e => e
theorem len_le : ∀ {as bs : List Str}, as.Nodup → (∀ z ∈ as, z ∈ bs) → as.length ≤ bs.length
  | [], _, _, _ => Nat.zero_le _
  | x :: t, bs, n, sub => by
    obtain ⟨n1, n2⟩ := List.nodup_cons.mp n
    have hx := sub x List.mem_cons_self
    have q := len_le (as := t) (bs := bs.erase x) n2 (fun z hz => (List.mem_erase_of_ne (fun e => n1 (by rw [← e]; exact hz))).mpr (sub z (List.mem_cons_of_mem _ hz)))
    rw [List.length_erase_of_mem hx] at q
    have := List.length_pos_of_mem hx
    rw [List.length_cons]
    omega
theorem TrS.glen {Pd : Addr → Prop} {H : Hp} {xs : List Str} {rs : List (List Str)} (ra : Rw xs rs) {d : Nat} {v : V} {T : PT} (h : TrS Pd H d v T) (sub : ∀ z ∈ lvs T, z ∈ xs) : (K24.gives xs rs T).length ≤ (lvs T).length := by
  rw [h.gives ra sub]
  exact len_le (ra.nd.sublist List.filter_sublist) fun z hz => (mem_fld sub).mp (cards_in ra.pr hz)
theorem gives_sub {Pd : Addr → Prop} {H : Hp} {xs : List Str} {rs : List (List Str)} (ra : Rw xs rs) {d : Nat} {v : V} {T : PT} (h : TrS Pd H d v T) (sub : ∀ z ∈ lvs T, z ∈ xs) : ∀ z ∈ K24.gives xs rs T, z ∈ lvs T := fun z hz => by
  rw [h.gives ra sub] at hz
  exact (mem_fld sub).mp (cards_in ra.pr hz)
theorem toldL_le {xs : List Str} {rs : List (List Str)} {ts : List PT} {i : Nat} : (toldL xs rs (ts.take i)).length ≤ (toldL xs rs ts).length := by
  have q : toldL xs rs ts = toldL xs rs (ts.take i) ++ toldL xs rs (ts.drop i) := by
    rw [toldL_eq, toldL_eq, toldL_eq, ← List.flatten_append, ← List.map_append, List.take_append_drop]
  rw [q, List.length_append]
  omega
def spPl (K : PySem.W.Frag) (d : Nat) : Sp := fun vs H Q _ => ∃ (R : Addr) (v : V) (as : List Addr) (rs : List (List Str)) (xs : List Str) (T : PT), vs = [.ref R, v] ∧ H R = some (.lst (as.map V.ref)) ∧ RowsAt H as rs ∧ Rw xs rs ∧ TrT H d v T ∧ (∀ z ∈ lvs T, z ∈ xs) ∧ (lvs T).length ≤ 60 ∧ d ≤ 20 ∧
  ∀ (Pa D E : Addr) (ts : List Addr) (H' : Hp), Same H H' → H Pa = none → H D = none → H E = none → H' Pa = some (.tup [.ref D, .ref E]) → H' D = some (.lst (ts.map V.ref)) → TabP (fun a => H a = none) H' (cardsL xs rs) ts (told xs rs T) → H' E = some (.lst ((gives xs rs T).map V.str)) → Q (.ref Pa) H'
section
variable {P : Program} {w : World} {K : PySem.W.Frag} {mg : Str → Option Value} {base : Heap} {C : Addr}
abbrev sPlayed : Stmt := top 35
abbrev nPlayed : List Str := ["rows", "tree", "told", "there", "part", "told_of_part", "going_on", "field", "given"]
theorem scPlayed : FnScope nPlayed ["rows", "tree"] (defScope sPlayed) := ⟨rfl, rfl, rfl, by decide +kernel, rfl, by decide +kernel, by decide +kernel⟩
theorem played_leaf {H : Hp} {z : Str} {xs : List Str} {rs : List (List Str)} {Q : VK} (k : ∀ (Pa D E : Addr) (ts : List Addr) (H' : Hp), Same H H' → H Pa = none → H D = none → H E = none → H' Pa = some (.tup [.ref D, .ref E]) → H' D = some (.lst (ts.map V.ref)) → TabP (fun a => H a = none) H' (cardsL xs rs) ts (told xs rs (.leaf z)) → H' E = some (.lst ((gives xs rs (.leaf z)).map V.str)) → Q (.ref Pa) H')
    {D E Pa : Addr} (nD : H D = none) (nE : upd H D (.lst []) E = none) (nP : upd (upd H D (.lst [])) E (.lst [.str z]) Pa = none) : Q (.ref Pa) (upd (upd (upd H D (.lst [])) E (.lst [.str z])) Pa (.tup [.ref D, .ref E])) := by
  have s1 := sn nD (o := .lst [])
  have s2 := sn nE (o := .lst [.str z])
  have s3 := sn nP (o := .tup [.ref D, .ref E])
  refine k Pa D E [] _ (s1.trans (s2.trans s3)) ((s1.trans s2).free nP) nD (s1.free nE) upd_same (s3 _ _ (s2 _ _ upd_same)) ?_ ?_
  · rw [told]
    exact .nil
  · rw [gives]
    exact s3 _ _ upd_same
theorem ok_played {f : Addr} {fd : FuncData} (F : FnP K "played" sPlayed f fd) (g : mg "played" = some (.ref f)) (LP : LibP mg) (D_cards_on : Df P w K mg base 2 "cards_on" sCardsOn ["rows", "field"] (spCardsOn K)) : ∀ d : Nat, FnOk P w K mg base CX0 (d + 3) f fd ["rows", "tree"] (spPl K d)
  | 0 => by
    refine okN F scPlayed (fun vs H Q E h => ?_) (fun cdv A outer s H vs Q E hr h => ?_)
    · obtain ⟨_, _, _, _, _, _, rfl, _⟩ := h
      rfl
    · obtain ⟨R, v, as, rs, xs, T, rfl, hR, ras, ra, ⟨z, rfl, rfl⟩, sub, l60, d20, k⟩ := h
      refine ⟨_, pss_cons (ps_if (pt_not (pt_val (pe_callB call_isi (by rfl) LP.isi (by decide +kernel) (pa_cons (pv 1) (pa_cons (pe_bltn (v := .ty "list") (by rfl) LP.list (by decide +kernel) rfl) pa_nil))))) (pss_one (ps_ret (pe_tup (pa_cons (pe_lst pa_nil) (pa_cons (pe_lst (pa_cons (pv 1) pa_nil)) pa_nil))))) pss_nil) (pss_cons ps_never (pss_cons ps_never (pss_cons ps_never (pss_cons ps_never (pss_one ps_never))))), ?_⟩
      refine ⟨_, rfl, .str z, .ty "list", .type "str", .type "list", false, rfl, .ty _, .base (.str z), kit_ty (by decide +kernel), _, rfl, iteT ?_⟩
      exact ⟨Nat.zero_le _, fun D nD => ⟨_, rfl, (show 1 ≤ sizeLine by decide), fun E1 nE => ⟨(show 2 ≤ sizeLine by decide), fun Pa nP => played_leaf k nD nE nP⟩⟩⟩
  | d + 1 => by
    have D : Df P w K mg base (d + 3) "played" sPlayed ["rows", "tree"] (spPl K d) := ⟨⟨f, fd, F, g, ok_played F g LP D_cards_on d, F.bindsN fun _ _ _ _ _ _ us hl => match us, hl with | [_, _], _ => rfl⟩⟩
    refine okN F scPlayed (fun vs H Q E h => ?_) (fun cdv A outer s H vs Q E hr h => ?_)
    · obtain ⟨_, _, _, _, _, _, rfl, _⟩ := h
      rfl
    · obtain ⟨R, v, as, rs, xs, T, rfl, hR, ras, ra, tr, sub, l60, d20, k⟩ := h
      have nd := scPlayed.nd
      have r2 : Room 2 (A.deeper (envOfC "played" (defScope sPlayed) s.heap.objs.size f cdv)) := hr.mono (by omega)
      refine' ⟨_, pss_cons (ps_if (pt_not (pt_val (pe_callB call_isi (by rfl) LP.isi (by decide +kernel) (pa_cons (pv 1) (pa_cons (pe_bltn (v := .ty "list") (by rfl) LP.list (by decide +kernel) rfl) pa_nil))))) (pss_one ?b0) pss_nil) (pss_cons ?b1 (pss_cons (ps_for PassesOwn.never rfl (pi_list (pv 1)) (pg_name (i := 4) nd rfl (Or.inl rfl)) (pss_cons ?b2 (pss_cons ?b3 (pss_one ?b4)))) (pss_cons ?b5 (pss_cons ?b6 (pss_one ?b7))))), ?_⟩
      case b0 => exact (ps_ret (pe_tup (pa_cons (pe_lst pa_nil) (pa_cons (pe_lst (pa_cons (pv 1) pa_nil)) pa_nil))))
      case b1 => exact (ps_par (i := 2) (j := 3) (by rfl) nd rfl rfl (by decide) rfl rfl (pa_cons (pe_lst pa_nil) (pa_cons (pe_lst pa_nil) pa_nil)) (by rfl))
      case b2 => exact (ps_asg (pe_df D hr (by rfl) (pa_cons (pv 0) (pa_cons (pv 4) pa_nil))) (pg_tup (n := 2) (by rfl) (pgs_cons (pg_name (i := 5) nd rfl (Or.inl rfl)) (pgs_cons (pg_name (i := 6) nd rfl (Or.inl rfl)) pgs_nil))))
      case b3 => exact (ps_set (i := 2) nd rfl (Or.inl rfl) (pe_op op_cat (pv 2) (pv 5)))
      case b4 => exact (ps_set (i := 3) nd rfl (Or.inl rfl) (pe_op op_cat (pv 3) (pv 6)))
      case b5 => exact (ps_set (i := 7) nd rfl (Or.inl rfl) (pe_sortS rfl (by rfl) LP.sorted (by rfl) LP.set (pv 3)))
      case b6 => exact (ps_set (i := 8) nd rfl (Or.inl rfl) (pe_df D_cards_on r2 (by rfl) (pa_cons (pv 0) (pa_cons (pv 7) pa_nil))))
      case b7 => exact (ps_ret (pe_tup (pa_cons (pe_op op_cat (pv 2) (pe_lst (pa_cons (pe_tup (pa_cons (pv 7) (pa_cons (pv 8) pa_nil))) pa_nil))) (pa_cons (pv 8) pa_nil))))
      have tr0 := tr
      rcases tr with ⟨z, rfl, rfl⟩ | ⟨a, vs, ts, rfl, _, ha, l1, l2, l3, f0, rfl⟩
      · refine ⟨_, rfl, .str z, .ty "list", .type "str", .type "list", false, rfl, .ty _, .base (.str z), kit_ty (by decide +kernel), _, rfl, iteT ?_⟩
        exact ⟨Nat.zero_le _, fun D nD => ⟨_, rfl, (show 1 ≤ sizeLine by decide), fun E1 nE => ⟨(show 2 ≤ sizeLine by decide), fun Pa nP => played_leaf k nD nE nP⟩⟩⟩
      · refine ⟨_, rfl, .ref a, .ty "list", .type "list", .type "list", true, rfl, .ty _, .base (.lst ha), kit_ty (by decide +kernel), _, rfl, iteF ?_⟩
        have t1 := tr0.l1
        have many := tr0.many (xs := xs) (rs := rs)
        have dl : (d + 1) * (lvs (.node ts)).length ≤ 20 * 60 := Nat.mul_le_mul d20 l60
        rw [lvs] at sub l60 t1 many dl
        rw [told, List.length_append, List.length_singleton] at many
        refine ⟨Nat.zero_le _, fun F0 nF0 => ⟨Nat.zero_le _, fun G0 nG0 => ⟨_, _, rfl, ?_⟩⟩⟩
        have sF := sn nF0 (o := .lst [])
        have sG := sn nG0 (o := .lst [])
        have s0 := sF.trans sG
        refine ⟨_, rfl, a, rfl, ⟨_, SqL.of (s0 _ _ ha)⟩, for_list (K := K) (a := a) (xs := vs) (fun i σ H' => ∃ (o4 o5 o6 : Option V) (F1 G1 : Addr) (us : List Addr), σ = [some (.ref R), some (.ref a), some (.ref F1), some (.ref G1), o4, o5, o6, none, none] ∧ H' F1 = some (.lst (us.map V.ref)) ∧ TabP (fun a => H a = none) H' (cardsL xs rs) us (toldL xs rs (ts.take i)) ∧ H' G1 = some (.lst ((givesL xs rs (ts.take i)).map V.str)) ∧ (givesL xs rs (ts.take i)).length ≤ (lvsL (ts.take i)).length ∧ H F1 = none ∧ H G1 = none ∧ Same H H')
          ⟨none, none, none, F0, G0, [], rfl, sG _ _ upd_same, by rw [List.take_zero, toldL]; exact .nil, by rw [List.take_zero, givesL]; exact upd_same, by rw [List.take_zero, givesL]; exact Nat.zero_le _, nF0, sF.free nG0, s0⟩ (fun i σ H' _ h => by obtain ⟨_, _, _, _, _, _, _, _, _, _, _, _, _, h⟩ := h; exact SqL.of (h _ _ ha)) ?_ ?_⟩
        · rintro i x σ H1 hx ⟨o4, o5, o6, F1, G1, us, rfl, hF, tb, hG, lg, nF, nG, s1⟩
          have il : i < vs.length := (List.getElem?_eq_some_iff.mp hx).1
          obtain ⟨t, ht⟩ : ∃ t, ts[i]? = some t := ⟨_, List.getElem?_eq_getElem (by omega)⟩
          have tri := f0 i x t hx ht
          have subi : ∀ z ∈ lvs t, z ∈ xs := fun z hz => sub z (lvs_in ht z hz)
          have lle := lvsL_le ht
          have gi := tri.glen ra subi
          have mi := tri.many (xs := xs) (rs := rs)
          have ltb := tb.len
          have tle := toldL_le (xs := xs) (rs := rs) (ts := ts) (i := i + 1)
          rw [toldL_take ht, List.length_append] at tle
          refine ⟨_, rfl, _, rfl, R, x, as, rs, xs, t, rfl, s1 _ _ hR, ras.same s1, ra, tri.same s1, subi, by omega, by omega, fun Pa D E us2 H2 s2 nPa nD nE hPa hD tb2 hE => ?_⟩
          have ltb2 := tb2.len
          refine ⟨Pa, _, rfl, SqT.of hPa, rfl, _, _, rfl, _, _, rfl, rfl, ?_⟩
          refine ⟨_, rfl, _, rfl, F1, D, _, _, rfl, rfl, s2 _ _ hF, hD, by rw [List.length_map, List.length_map, sizeLine_eq]; omega, fun F2 nF2 => ?_⟩
          rw [← List.map_append]
          have s3 := sn nF2 (o := .lst ((us ++ us2).map V.ref))
          have hF2 := upd_same (H := H2) (a := F2) (o := .lst ((us ++ us2).map V.ref))
          generalize upd H2 F2 (.lst ((us ++ us2).map V.ref)) = H3 at s3 hF2 ⊢
          refine ⟨_, rfl, _, rfl, G1, E, _, _, rfl, rfl, s3 _ _ (s2 _ _ hG), s3 _ _ hE, by rw [List.length_map, List.length_map, sizeLine_eq]; omega, fun G2 nG2 => ?_⟩
          rw [← List.map_append, ← givesL_take ht]
          have s4 := sn nG2 (o := .lst ((givesL xs rs (ts.take (i + 1))).map V.str))
          have hG2 := upd_same (H := H3) (a := G2) (o := .lst ((givesL xs rs (ts.take (i + 1))).map V.str))
          generalize upd H3 G2 (.lst ((givesL xs rs (ts.take (i + 1))).map V.str)) = H4 at s4 hG2 ⊢
          have s34 := s3.trans s4
          refine ⟨_, _, _, F2, G2, us ++ us2, rfl, s4 _ _ hF2, ?_, hG2, by rw [givesL_take ht, lvsL_take ht, List.length_append, List.length_append]; omega, (s1.trans s2).free nF2, ((s1.trans s2).trans s3).free nG2, s1.trans (s2.trans s34)⟩
          rw [toldL_take ht]
          exact (tb.keep (fun _ h => h) fun a o _ e => (s2.trans s34) a o e).app (tb2.keep (fun a h => s1.free h) fun a o _ e => s34 a o e)
        · rintro σ H1 ⟨o4, o5, o6, F1, G1, us, rfl, hF, tb, hG, lg, nF, nG, s1⟩
          rw [← l3, List.take_length] at tb hG lg
          refine ⟨_, rfl, G1, _, rfl, SqL.of hG, by omega, fun ys p so nd2 my le np => ?_⟩
          have gsub : ∀ z ∈ givesL xs rs ts, z ∈ lvsL ts := fun z hz => by
            rw [givesL_eq] at hz
            obtain ⟨_, hm, hz⟩ := List.mem_flatten.mp hz
            obtain ⟨t, ht, rfl⟩ := List.mem_map.mp hm
            obtain ⟨i, hi⟩ := List.mem_iff_getElem?.mp ht
            obtain ⟨x, hx⟩ : ∃ x, vs[i]? = some x := ⟨_, List.getElem?_eq_getElem (by have := (List.getElem?_eq_some_iff.mp hi).1; omega)⟩
            exact lvs_in hi z (gives_sub ra (f0 i x t hx hi) (fun y hy => sub y (lvs_in hi y hy)) z hz)
          have gx : ∀ z ∈ givesL xs rs ts, z ∈ xs := fun z hz => sub z (gsub z hz)
          have ey : ys = fldL xs (givesL xs rs ts) := by
            refine sorted_ext so (sorted_filter ra.so) nd2 (ra.nd.sublist List.filter_sublist) fun z => ?_
            rw [my z, mem_fld gx]
          subst ey
          have s2 := sn np (o := .lst ((fldL xs (givesL xs rs ts)).map V.str))
          have hp := upd_same (H := H1) (a := p) (o := .lst ((fldL xs (givesL xs rs ts)).map V.str))
          generalize upd H1 p (.lst ((fldL xs (givesL xs rs ts)).map V.str)) = H2 at s2 hp ⊢
          have s12 := s1.trans s2
          have fsub : (fldL xs (givesL xs rs ts)).Sublist xs := List.filter_sublist
          obtain ⟨z0, hz0⟩ : ∃ z0, z0 ∈ givesL xs rs ts := by
            obtain ⟨t, ht⟩ : ∃ t, ts[0]? = some t := ⟨_, List.getElem?_eq_getElem (by omega)⟩
            obtain ⟨x, hx⟩ : ∃ x, vs[0]? = some x := ⟨_, List.getElem?_eq_getElem (by omega)⟩
            have subi : ∀ z ∈ lvs t, z ∈ xs := fun z hz => sub z (lvs_in ht z hz)
            have e := (f0 0 x t hx ht).gives ra subi
            have q1 := (f0 0 x t hx ht).l1
            obtain ⟨y, hy⟩ := List.exists_mem_of_length_pos q1
            obtain ⟨r, hr⟩ := List.exists_mem_of_length_pos ra.r1
            obtain ⟨u, hu⟩ := fst_ex (ra.pr r hr) (gs := fldL xs (lvs t)) ⟨y, (mem_fld subi).mpr hy, subi y hy⟩
            refine ⟨u, ?_⟩
            rw [givesL_eq]
            refine List.mem_flatten.mpr ⟨_, List.mem_map.mpr ⟨t, List.mem_of_getElem? ht, rfl⟩, ?_⟩
            rw [e]
            exact (mem_cardsL ra.pr).mpr ⟨r, hr, hu⟩
          have fp : 0 < (fldL xs (givesL xs rs ts)).length := List.length_pos_of_mem ((mem_fld gx).mpr hz0)
          have fa : FieldAt H2 p xs (fldL xs (givesL xs rs ts)) := ⟨hp, lot_subl (sorted_pw ra.so) ra.nd fsub, fp, by have := fsub.length_le; have := ra.le; omega⟩
          refine ⟨_, rfl, _, rfl, R, p, as, rs, _, rfl, s12 _ _ hR, ras.same s12, SqL.of hp, fun r hr => fst_ex (ra.pr r hr) (gs := fldL xs (givesL xs rs ts)) ⟨z0, (mem_fld gx).mpr hz0, gx z0 hz0⟩, ra.l60, fun ys2 Gv H3 s3 nGv hGv so2 nd3 mem2 _ => ?_⟩
          obtain rfl := cards_eq ra fa so2 nd3 mem2
          have s13 := s12.trans s3
          refine ⟨_, rfl, _, rfl, _, rfl, (show 2 ≤ sizeLine by decide), fun Tp nTp => ?_⟩
          have s4 := sn nTp (o := .tup [.ref p, .ref Gv])
          have hTp := upd_same (H := H3) (a := Tp) (o := .tup [.ref p, .ref Gv])
          generalize upd H3 Tp (.tup [.ref p, .ref Gv]) = H4 at s4 hTp ⊢
          refine ⟨(show 1 ≤ sizeLine by decide), fun L1 nL1 => ?_⟩
          have s5 := sn nL1 (o := .lst [.ref Tp])
          have hL1 := upd_same (H := H4) (a := L1) (o := .lst [.ref Tp])
          generalize upd H4 L1 (.lst [.ref Tp]) = H5 at s5 hL1 ⊢
          have s25 := s3.trans (s4.trans s5)
          have lus := tb.len
          refine ⟨F1, L1, _, _, rfl, rfl, s25 _ _ (s2 _ _ hF), hL1, by rw [List.length_map, sizeLine_eq]; show us.length + 1 ≤ _; omega, fun F2 nF2 => ?_⟩
          have s6 := sn nF2 (o := .lst (us.map V.ref ++ [.ref Tp]))
          have hF2 := upd_same (H := H5) (a := F2) (o := .lst (us.map V.ref ++ [.ref Tp]))
          generalize upd H5 F2 (.lst (us.map V.ref ++ [.ref Tp])) = H6 at s6 hF2 ⊢
          refine ⟨_, rfl, (show 2 ≤ sizeLine by decide), fun Pa nPa => ?_⟩
          have s7 := sn nPa (o := .tup [.ref F2, .ref Gv])
          have hPa := upd_same (H := H6) (a := Pa) (o := .tup [.ref F2, .ref Gv])
          generalize upd H6 Pa (.tup [.ref F2, .ref Gv]) = H7 at s7 hPa ⊢
          have s67 := s6.trans s7
          have s57 := s5.trans s67
          have s37 := s4.trans s57
          have s17 := s13.trans s37
          refine k Pa F2 Gv (us ++ [Tp]) H7 s17 ((s13.trans (s4.trans (s5.trans s6))).free nPa) ((s13.trans (s4.trans s5)).free nF2) (s12.free nGv) hPa (by rw [List.map_append]; exact s7 _ _ hF2) ?_ (by rw [gives]; exact s37 _ _ hGv)
          rw [told]
          exact (tb.keep (fun _ h => h) fun a o _ e => (s2.trans (s3.trans s37)) a o e).snoc (s13.free nTp) (s1.free np) (s12.free nGv) (s57 _ _ hTp) ((s3.trans s37) _ _ hp) (s37 _ _ hGv)
end
end K24

set_option maxHeartbeats 4000000
/-! min(xs, default=d) of a list of ints. -/
namespace G1
open PySem PySem.Spec PyProof.Rows L2 PySem.W
def rMinDef (K : PySem.W.Frag) : List V → List V → Hp → VK → Prop := fun vs zs H Q => ∃ (a : Addr) (ns : List Int) (d : V), vs = [V.ref a] ∧ zs = [d] ∧ SqL K H a (ns.map V.int) ∧ (ns = [] → Q d H) ∧ ∀ m, m ∈ ns → (∀ y, y ∈ ns → m ≤ y) → Q (.int m) H
theorem fold_min : ∀ (ns : List Int) (n : Int), (ns.foldl min n ∈ n :: ns) ∧ ∀ y ∈ n :: ns, ns.foldl min n ≤ y
  | [], n => ⟨.head _, fun y hy => by rw [List.mem_singleton.mp hy]; exact Int.le_refl _⟩
  | k :: ns, n => by
    obtain ⟨h1, h2⟩ := fold_min ns (min n k)
    rw [List.foldl_cons]
    have hm := h2 (min n k) (.head _)
    refine ⟨?_, fun y hy => ?_⟩
    · rcases List.mem_cons.mp h1 with h | h
      · rw [h]
        rcases Int.le_total n k with q | q
        · rw [Int.min_eq_left q]
          exact .head _
        · rw [Int.min_eq_right q]
          exact .tail _ (.head _)
      · exact .tail _ (.tail _ h)
    · rcases List.mem_cons.mp hy with rfl | hy
      · exact Int.le_trans hm (Int.min_le_left _ _)
      · rcases List.mem_cons.mp hy with rfl | hy
        · exact Int.le_trans hm (Int.min_le_right _ _)
        · exact h2 y (.tail _ hy)
theorem ints_alike (ns : List Int) : AlikeAll (ns.map PyData.int) := by
  refine ⟨fun x hx y hy => ?_, fun x hx => ?_⟩
  · obtain ⟨i, _, rfl⟩ := List.mem_map.mp hx
    obtain ⟨j, _, rfl⟩ := List.mem_map.mp hy
    rfl
  · obtain ⟨i, _, rfl⟩ := List.mem_map.mp hx
    exact fun h => by cases h
section
variable {X : Cx}
theorem cr_minDef (hu : X.A.units + 2 < cLine) (hc : X.calm = true) : CallRK X (.builtin "min") ["default"] (rMinDef X.K) := by
  intro pins s σ H vs zs us ws Q I r1 r2 h
  obtain ⟨a, ns, d, rfl, rfl, hs, q0, q⟩ := h
  obtain ⟨its, rv, hl, _⟩ := I.list hs
  rw [Vals.ref1 r1]
  obtain ⟨w0, ew, rw0⟩ := vals1 r2
  subst ew
  show wpAny _ _ (call (.builtin "min") [.ref a] [(Str.ofString "default", w0)]) _ _ _
  have hr := ints_readAll s.heap rv.ints
  refine min_list_default (I.ok.hd hc) hl.isList (by simpa using hr) (ints_alike ns) (by rw [PyProof.Rows.depthAll_ints]; omega) (fun e h' tk hk => ?_) fun y ys i v h' tk bs e hv rd hk => ?_
  · have e0 : ns = [] := List.map_eq_nil_iff.mp e
    exact ⟨d, H, I.kept hk, rw0, q0 e0⟩
  · cases ns with
    | nil => cases e
    | cons n ns =>
      obtain ⟨rfl, rfl⟩ := List.cons.inj e
      rw [minD_ints] at rd
      obtain ⟨h1, h2⟩ := fold_min ns n
      cases rd
      exact ⟨.int _, H, I.kept hk, ⟨_, rfl⟩, q _ h1 h2⟩
end
end G1

set_option maxHeartbeats 4000000
/-! max(xs, default=d) of a list of ints. -/
namespace G1
open PySem PySem.Spec PyProof.Rows L2 PySem.W
def rMaxDef (K : PySem.W.Frag) : List V → List V → Hp → VK → Prop := fun vs zs H Q => ∃ (a : Addr) (ns : List Int) (d : V), vs = [V.ref a] ∧ zs = [d] ∧ SqL K H a (ns.map V.int) ∧ (ns = [] → Q d H) ∧ ∀ m, m ∈ ns → (∀ y, y ∈ ns → y ≤ m) → Q (.int m) H
theorem fold_max : ∀ (ns : List Int) (n : Int), (ns.foldl max n ∈ n :: ns) ∧ ∀ y ∈ n :: ns, y ≤ ns.foldl max n
  | [], n => ⟨.head _, fun y hy => by rw [List.mem_singleton.mp hy]; exact Int.le_refl _⟩
  | k :: ns, n => by
    obtain ⟨h1, h2⟩ := fold_max ns (max n k)
    rw [List.foldl_cons]
    have hm := h2 (max n k) (.head _)
    refine ⟨?_, fun y hy => ?_⟩
    · rcases List.mem_cons.mp h1 with h | h
      · rw [h]
        rcases Int.le_total n k with q | q
        · rw [Int.max_eq_right q]
          exact .tail _ (.head _)
        · rw [Int.max_eq_left q]
          exact .head _
      · exact .tail _ (.tail _ h)
    · rcases List.mem_cons.mp hy with rfl | hy
      · exact Int.le_trans (Int.le_max_left _ _) hm
      · rcases List.mem_cons.mp hy with rfl | hy
        · exact Int.le_trans (Int.le_max_right _ _) hm
        · exact h2 y (.tail _ hy)
section
variable {X : Cx}
theorem cr_maxDef (hu : X.A.units + 2 < cLine) (hc : X.calm = true) : CallRK X (.builtin "max") ["default"] (rMaxDef X.K) := by
  intro pins s σ H vs zs us ws Q I r1 r2 h
  obtain ⟨a, ns, d, rfl, rfl, hs, q0, q⟩ := h
  obtain ⟨its, rv, hl, _⟩ := I.list hs
  rw [Vals.ref1 r1]
  obtain ⟨w0, ew, rw0⟩ := vals1 r2
  subst ew
  show wpAny _ _ (call (.builtin "max") [.ref a] [(Str.ofString "default", w0)]) _ _ _
  have hr := ints_readAll s.heap rv.ints
  refine max_list_default (I.ok.hd hc) hl.isList (by simpa using hr) (ints_alike ns) (by rw [PyProof.Rows.depthAll_ints]; omega) (fun e h' tk hk => ?_) fun y ys i v h' tk bs e hv rd hk => ?_
  · have e0 : ns = [] := List.map_eq_nil_iff.mp e
    exact ⟨d, H, I.kept hk, rw0, q0 e0⟩
  · cases ns with
    | nil => cases e
    | cons n ns =>
      obtain ⟨rfl, rfl⟩ := List.cons.inj e
      rw [maxD_ints] at rd
      obtain ⟨h1, h2⟩ := fold_max ns n
      cases rd
      exact ⟨.int _, H, I.kept hk, ⟨_, rfl⟩, q _ h1 h2⟩
end
end G1

set_option maxHeartbeats 8000000
namespace K24
open PySem PySem.Spec PyProof.Rows L2 G1
/-- a tree of names of xs, with its shape -/
structure TrG (H : Hp) (d : Nat) (v : V) (xs : List Str) (T : PT) : Prop where
  tr : TrT H d v T
  sub : ∀ z ∈ lvs T, z ∈ xs
  l60 : (lvs T).length ≤ 60
theorem TrG.same {H H' : Hp} {d : Nat} {v : V} {xs : List Str} {T : PT} (h : TrG H d v xs T) (s : Same H H') : TrG H' d v xs T := ⟨TrS.same h.tr s, h.sub, h.l60⟩
theorem TrG.f {H : Hp} {d : Nat} {v : V} {xs : List Str} {T : PT} (h : TrG H d v xs T) : TrF H d v xs (lvs T) := ⟨h.tr.trP.at_, h.sub, h.tr.l1, h.l60⟩
theorem TrG.up {H : Hp} {d e : Nat} {v : V} {xs : List Str} {T : PT} (h : TrG H d v xs T) (l : d ≤ e) : TrG H e v xs T := ⟨TrS.up l h.tr, h.sub, h.l60⟩
/-- the greatest of these and 0 -/
def Max0 (ns : List Int) (m : Int) : Prop := m ∈ 0 :: ns ∧ ∀ y ∈ 0 :: ns, y ≤ m
theorem Max0.uniq {ns : List Int} {m k : Int} (h : Max0 ns m) (g : Max0 ns k) : m = k := Int.le_antisymm (g.2 m h.1) (h.2 k g.1)
def lens (L : List (List Str)) : List Int := L.map fun f => (f.length : Int)
def spEach (C : Addr) (d : Nat) : Sp := fun vs H Q _ => ∃ (a : Addr) (v : V) (xs : List Str) (rs : List (List Str)) (T : PT), vs = [.ref a, v] ∧ PanF H C a xs rs ∧ Rw xs rs ∧ TrG H d v xs T ∧
  ∀ (D : Addr) (ts : List Addr) (H' : Hp), Same H H' → H D = none → H' D = some (.lst (ts.map V.ref)) → TabP (fun a => H a = none) H' (cardsL xs rs) ts (told xs rs T) → Q (.ref D) H'
def spWid (C : Addr) (d : Nat) : Sp := fun vs H Q _ => ∃ (a : Addr) (v : V) (xs : List Str) (rs : List (List Str)) (T : PT), vs = [.ref a, v] ∧ PanF H C a xs rs ∧ Rw xs rs ∧ TrG H d v xs T ∧
  ∀ (m : Int) (H' : Hp), Same H H' → Max0 (lens (told xs rs T)) m → Q (.int m) H'
theorem TabP.at {Pd : Addr → Prop} {H : Hp} {g : List Str → List Str} {ts : List Addr} {L : List (List Str)} (h : TabP Pd H g ts L) : ∀ {i : Nat} {t : Addr}, ts[i]? = some t → ∃ (a b : Addr) (fs : List Str), L[i]? = some fs ∧ Pd t ∧ Pd a ∧ Pd b ∧ H t = some (.tup [.ref a, .ref b]) ∧ H a = some (.lst (fs.map V.str)) ∧ H b = some (.lst ((g fs).map V.str)) := by
  induction h with
  | nil => intro i t e; simp at e
  | @cons t0 a b fs ts L p1 p2 p3 h1 h2 h3 _ ih =>
    intro i t e
    cases i with
    | zero =>
      obtain rfl := Option.some.inj e
      exact ⟨a, b, fs, rfl, p1, p2, p3, h1, h2, h3⟩
    | succ i =>
      obtain ⟨a', b', fs', q⟩ := ih (i := i) (t := t) (by simpa using e)
      exact ⟨a', b', fs', by simpa using q.1, q.2⟩
section
variable {P : Program} {w : World} {K : PySem.W.Frag} {mg : Str → Option Value} {base : Heap} {C : Addr}
abbrev sEach : Stmt := top 36
abbrev nEach : List Str := ["panel", "tree"]
theorem scEach : FnScope nEach ["panel", "tree"] (defScope sEach) := ⟨rfl, rfl, rfl, by decide +kernel, rfl, by decide +kernel, by decide +kernel⟩
theorem ok_each {d : Nat} {f : Addr} {fd : FuncData} (F : FnP K "each_heat" sEach f fd) (d20 : d ≤ 20) (N : PanP P w K mg base C) (D_check_tree : Df P w K mg base (d + 2) "check_tree" sChkT ["panel", "tree"] (spChkT C d)) (D_played : Df P w K mg base (d + 3) "played" sPlayed ["rows", "tree"] (spPl K d)) :
    FnOk P w K mg base CX0 (d + 4) f fd ["panel", "tree"] (spEach C d) := by
  refine okN F scEach (fun vs H Q E h => ?_) (fun cdv A outer s H vs Q E hr h => ?_)
  · obtain ⟨_, _, _, _, _, rfl, _⟩ := h
    rfl
  · obtain ⟨a, v, xs, rs, T, rfl, pa, ra, tr, k⟩ := h
    have nd := scEach.nd
    have r1 : Room 1 (A.deeper (envOfC "each_heat" (defScope sEach) s.heap.objs.size f cdv)) := hr.mono (by omega)
    have r2 : Room (d + 2) (A.deeper (envOfC "each_heat" (defScope sEach) s.heap.objs.size f cdv)) := hr.mono (by omega)
    refine' ⟨_, pss_cons ?b0 (pss_one ?b1), ?_⟩
    case b0 => exact (ps_expr (pe_df D_check_tree r2 (by rfl) (pa_cons (pv 0) (pa_cons (pv 1) pa_nil))))
    case b1 => exact (ps_ret (pe_ix ix_tup (pe_df D_played hr (by rfl) (pa_cons (pe_mt (pv 0) N.cls N.rw r1) (pa_cons (pv 1) pa_nil))) pe_int (fun _ _ => rfl)))
    refine ⟨_, rfl, _, rfl, a, v, xs, lvs T, rs, rfl, pa, tr.f, fun H1 s1 => ?_⟩
    obtain ⟨dx, gs, fr1, fr2, fr3, fr4⟩ := id (pa.same s1).fre
    refine ⟨_, rfl, a, dx, gs, rfl, fr1, fr3, a, xs, rs, rfl, (pa.same s1).at_, pa.le, fun R1 cs H2 s2 nR1 hR1 hcs ncs _ => ?_⟩
    have s12 := s1.trans s2
    refine ⟨_, rfl, R1, v, cs, rs, xs, T, rfl, hR1, hcs, ra, (tr.same s12).tr, tr.sub, tr.l60, d20, fun Pa D E ts H3 s3 nPa nD nE hPa hD tb hE => ?_⟩
    exact ⟨Pa, _, _, .ref D, rfl, rfl, SqT.of hPa, atI_nat (j := 0) rfl, k D ts H3 (s12.trans s3) (s12.free nD) hD (tb.keep (fun a h => s12.free h) fun _ _ _ e => e)⟩
abbrev sWidest : Stmt := top 37
abbrev nWidest : List Str := ["panel", "tree", "field", "_"]
theorem scWidest : FnScope nWidest ["panel", "tree"] (defScope sWidest) := ⟨rfl, rfl, rfl, by decide +kernel, rfl, by decide +kernel, by decide +kernel⟩
theorem ok_widest {d : Nat} {f : Addr} {fd : FuncData} (F : FnP K "widest" sWidest f fd) (L : Lib K mg) (d20 : d ≤ 20) (D_each_heat : Df P w K mg base (d + 4) "each_heat" sEach ["panel", "tree"] (spEach C d)) :
    FnOk P w K mg base CX0 (d + 5) f fd ["panel", "tree"] (spWid C d) := by
  refine okN F scWidest (fun vs H Q E h => ?_) (fun cdv A outer s H vs Q E hr h => ?_)
  · obtain ⟨_, _, _, _, _, rfl, _⟩ := h
    rfl
  · obtain ⟨a, v, xs, rs, T, rfl, pa, ra, tr, k⟩ := h
    have nd := scWidest.nd
    have hun := hr.un
    have hu2 : (A.deeper (envOfC "widest" (defScope sWidest) s.heap.objs.size f cdv)).units + 2 < cLine := by omega
    refine' ⟨_, pss_one ?b0, ?_⟩
    case b0 => exact (ps_ret (pe_callBK (cr_maxDef hu2 rfl) (by rfl) L.max (by decide +kernel) (pa_cons (pe_lc (own := [("field", 2), ("_", 3)]) (g := gTup K 2 (gCons (gName 2) (gCons (gName 3) gNil))) (tt := tYes) (te := (tCB (rLenQ K) (tCons (tVar 2) tNil))) (by rfl) nd (pi_list (pe_df D_each_heat hr (by rfl) (pa_cons (pv 0) (pa_cons (pv 1) pa_nil))))
        (blkOk_by (N := nWidest) (sc := (defScope sWidest)) (by decide +kernel)) (fun _ _ _ _ _ => (pg_tup (n := 2) (by rfl) (pgs_cons (pg_name (i := 2) scWidest.nd rfl (Or.inl rfl)) (pgs_cons (pg_name (i := 3) scWidest.nd rfl (Or.inl rfl)) pgs_nil)))) (fun _ _ _ _ _ => pts_nil) (fun _ _ _ _ _ => (pe_callB call_len_seq (by rfl) L.len PySem.boot_len (pa_cons (pv 2) pa_nil)))) pa_nil) (pk_cons pe_int pk_nil)))
    refine ⟨_, rfl, _, rfl, a, v, xs, rs, T, rfl, pa, ra, tr, fun D0 ts H1 s1 nD0 hD0 tb => ?_⟩
    have many := tr.tr.many (xs := xs) (rs := rs)
    have dl : d * (lvs T).length ≤ 20 * 60 := Nat.mul_le_mul d20 tr.l60
    have ltb := tb.len
    refine ⟨D0, rfl, ⟨_, SqL.of hD0⟩, fun D nD => lc_list (K := K) (a := D0) (xs := ts.map V.ref) (fun i H' => H' D = some (.lst ((lens ((told xs rs T).take i)).map V.int)) ∧ Same H1 H') ⟨by rw [List.take_zero]; exact upd_same, sn nD⟩ (fun i H' _ h => SqL.of (h.2 _ _ hD0)) ?_ ?_⟩
    · rintro i x H' hx ⟨w1, w2⟩
      rw [List.getElem?_map] at hx
      obtain ⟨t, ht, rfl⟩ := Option.map_eq_some_iff.mp hx
      obtain ⟨p, q, fs, e1, _, _, _, h1, h2, _⟩ := tb.at ht
      refine ⟨t, _, rfl, SqT.of (w2 _ _ h1), rfl, _, _, rfl, _, _, rfl, rfl, ?_⟩
      have il : i < ts.length := (List.getElem?_eq_some_iff.mp ht).1
      refine ⟨rfl, _, rfl, p, _, rfl, .inl (SqL.of (w2 _ _ h2)), _, w1, ?_, ?_, fun b o hb => ?_⟩
      · unfold lens
        rw [List.length_map, List.length_map, List.length_take, sizeLine_eq]
        omega
      · rw [upd_same, take_one e1, lens, lens, List.map_append, List.map_append, List.length_map]
        rfl
      · rw [upd_ne (ne_of_none hb nD)]
        exact w2 _ _ hb
    · rintro H2 ⟨w1, w2⟩
      rw [List.length_map, ltb, List.take_length] at w1
      have ge : ∀ y ∈ lens (told xs rs T), 0 ≤ y := fun y hy => by
        obtain ⟨f, _, rfl⟩ := List.mem_map.mp hy
        omega
      refine ⟨D, lens (told xs rs T), .int 0, rfl, rfl, SqL.of w1, fun e => ?_, fun m hm hle => ?_⟩
      · refine k 0 H2 (s1.trans w2) ?_
        rw [e]
        exact ⟨.head _, fun y hy => by rw [List.mem_singleton.mp hy]; exact Int.le_refl _⟩
      · refine k m H2 (s1.trans w2) ⟨.tail _ hm, fun y hy => ?_⟩
        rcases List.mem_cons.mp hy with rfl | hy
        · exact ge m hm
        · exact hle y hy
end
end K24

set_option maxHeartbeats 8000000
namespace K24
open PySem PySem.Spec PyProof.Rows L2 G1
theorem lists_rowsT {K : PySem.W.Frag} {H : Hp} {a c : Addr} {as cs : List Addr} {rs : List (List Str)} (ha : H a = some (.lst (as.map V.ref))) (hc : H c = some (.lst (cs.map V.ref))) (h1 : RowsAt H as rs) (h2 : RowsAt H cs rs) : Lists2 K H 1 (.ref a) (.ref c) true := by
  refine ⟨a, c, _, _, rfl, rfl, SqL.of ha, SqL.of hc, .inr ⟨by rw [List.length_map, List.length_map, h1.len, h2.len], fun _ => true, fun i x y hx hy => ?_, by simp⟩⟩
  rw [List.getElem?_map] at hx hy
  obtain ⟨b, hb, rfl⟩ := Option.map_eq_some_iff.mp hx
  obtain ⟨d, hd, rfl⟩ := Option.map_eq_some_iff.mp hy
  obtain ⟨r, hr1, hr2⟩ := h1.at hb
  obtain ⟨t, ht1, ht2⟩ := h2.at hd
  rw [hr1] at ht1
  obtain rfl := Option.some.inj ht1
  exact eqW_of (lists_strs2 (SqL.of hr2) (SqL.of ht2))
theorem lists_nilT {K : PySem.W.Frag} {H : Hp} {n : Nat} {a c : Addr} (ha : H a = some (.lst [])) (hc : H c = some (.lst [])) : Lists2 K H n (.ref a) (.ref c) true :=
  ⟨a, c, [], [], rfl, rfl, SqL.of ha, SqL.of hc, .inr ⟨rfl, fun _ => true, (fun i x y h => nomatch h), rfl⟩⟩
def spStays (C : Addr) : Sp := fun vs H Q _ => ∃ (a n R : Addr) (xs : List Str) (as : List Addr) (rs : List (List Str)), vs = [.ref a, .ref n, .ref R] ∧ PanF H C a xs rs ∧ H n = some (.lst (xs.map V.str)) ∧ H R = some (.lst (as.map V.ref)) ∧ RowsAt H as rs ∧ GoodW xs rs ∧ ∀ H', Same H H' → Q (.bl true) H'
section
variable {P : Program} {w : World} {K : PySem.W.Frag} {mg : Str → Option Value} {base : Heap} {C : Addr}
abbrev sStays : Stmt := top 57
abbrev nStays : List Str := ["_law_panel_here", "_law_names_here", "_law_rows", "_law_row", "_law_name", "_law_field"]
theorem scStays : FnScope nStays ["_law_panel_here", "_law_names_here", "_law_rows"] (defScope sStays) := ⟨rfl, rfl, rfl, by decide +kernel, rfl, by decide +kernel, by decide +kernel⟩
def scStaysIn1 : Scope := { kind := .function, names := [(Str.ofString ".0", .local), (Str.ofString "_law_name", .cell), (Str.ofString "places", .globalImplicit), (Str.ofString "_law_panel_here", .cell), (Str.ofString "_law_rows", .cell)], isGenerator := false, isCoroutine := false }
theorem ok_stays {f : Addr} {fd : FuncData} (F : FnP K "_law_stays" sStays f fd) (LP : LibP mg) (N : PanP P w K mg base C) (D_places : Df P w K mg base 2 "places" sPlaces ["panel", "entry"] (spPlaces C)) (D__law_fields : Df P w K mg base 1 "_law_fields" sFlds ["_law_names_here"] (spFlds K)) (D_cards : Df P w K mg base 5 "cards" sCards ["panel", "field"] (spCards C)) (D__law_cards : Df P w K mg base 1 "_law_cards" sLC ["_law_rows", "_law_field"] (spLC K)) :
    FnOk P w K mg base CX0 6 f fd ["_law_panel_here", "_law_names_here", "_law_rows"] (spStays C) := by
  refine okN F scStays (fun vs H Q E h => ?_) (fun cdv A outer s H vs Q E hr h => ?_)
  · obtain ⟨_, _, _, _, _, _, rfl, _⟩ := h
    rfl
  · obtain ⟨a, n, R, xs, as, rs, rfl, pa, hn, hR, has, gd, k⟩ := h
    have nd := scStays.nd
    have hun := hr.un
    have hu1 : (A.deeper (envOfC "_law_stays" (defScope sStays) s.heap.objs.size f cdv)).units + (0 + 1) < cLine := by omega
    have hu2 : (A.deeper (envOfC "_law_stays" (defScope sStays) s.heap.objs.size f cdv)).units + (1 + 1) < cLine := by omega
    have r1 : Room 1 (A.deeper (envOfC "_law_stays" (defScope sStays) s.heap.objs.size f cdv)) := hr.mono (by decide)
    have r2 : Room 2 (A.deeper (envOfC "_law_stays" (defScope sStays) s.heap.objs.size f cdv)) := hr.mono (by decide)
    have r5 : Room 5 (A.deeper (envOfC "_law_stays" (defScope sStays) s.heap.objs.size f cdv)) := hr.mono (by decide)
    refine' ⟨_, pss_cons ?b0 (pss_cons ?b1 (pss_one ?b2)), ?_⟩
    case b0 => exact (ps_if (PW.pt (pw_or (pt_cmpR (op_neW (n := 0) hu1) (pe_mt (pv 0) N.cls N.en r1) (pe_callTy call_list_of (by rfl) LP.list (by decide +kernel) (pa_cons (pv 1) pa_nil)) (by rfl)) (pw_or1 (pt_cmpR (op_neW (n := 1) hu2) (pe_mt (pv 0) N.cls N.rw r1) (pe_lc (own := [("_law_row", 3)]) (g := gName 3) (tt := tYes) (te := (tCB (rCopyL2 K) (tCons (tVar 3) tNil))) (by rfl) nd (pi_list (pv 2))
        (blkOk_by (N := nStays) (sc := (defScope sStays)) (by decide +kernel)) (fun _ _ _ _ _ => (pg_name (i := 3) scStays.nd rfl (Or.inl rfl))) (fun _ _ _ _ _ => pts_nil) (fun _ _ _ _ _ => (pe_callTy call_list_of (by rfl) LP.list (by decide +kernel) (pa_cons (pv 3) pa_nil)))) (nomark _))))) (pss_one ps_never) pss_nil)
    case b1 => exact (ps_if (pt_cmpR (op_neW (n := 0) hu1) (pe_lc (own := [("_law_name", 4)]) (g := gName 4) (tt := (tTest (tOp (rNeW K 0) (tCall (spPlaces C) [] E0 (tCons (tVar 0) (tCons (tVar 4) tNil))) (tLc (iList K (tVar 2)) (gName 3) tYes (tBM K "list" (rIndex K) (tVar 3) (tCons (tVar 4) tNil)) [3])))) (te := (tVar 4)) (by rfl) nd (pi_list (pv 1))
        (blkOk_by (N := nStays) (sc := (defScope sStays)) (by decide +kernel)) (fun _ _ _ _ _ => (pg_name (i := 4) scStays.nd rfl (Or.inr rfl))) (fun _ _ _ _ _ => (pts_one (pt_cmpR (op_neW (n := 0) hu1) (pe_df D_places r2 (by rfl) (pa_cons (pv 0) (pa_cons (pv 4) pa_nil))) (pe_lc (own := [("_law_row", 3)]) (g := gName 3) (tt := tYes) (te := (tBM K "list" (rIndex K) (tVar 3) (tCons (tVar 4) tNil))) (by rfl) scStays.nd (pi_list (pv 2))
        (blkOk_by (N := nStays) (sc := scStaysIn1) (by decide +kernel)) (fun _ _ _ _ _ => (pg_name (i := 3) scStays.nd rfl (Or.inl rfl))) (fun _ _ _ _ _ => pts_nil) (fun _ _ _ _ _ => (pe_bm PySem.F.plainAttrs_list PySem.F.slot_list_index PySem.F.type_list_index mt_index (pv 3) (pa_cons (pv 4) pa_nil)))) (nomark _)))) (fun _ _ _ _ _ => (pv 4))) (pe_lst pa_nil) (nomark _)) (pss_one ps_never) pss_nil)
    case b2 => exact (ps_ret (pe_cmpR (op_eqW (n := 0) hu1) (pe_lc (own := [("_law_field", 5)]) (g := gName 5) (tt := (tTest (tOp (rNeW K 0) (tCall (spCards C) [] E0 (tCons (tVar 0) (tCons (tVar 5) tNil))) (tCall (spLC K) [] E0 (tCons (tVar 2) (tCons (tVar 5) tNil)))))) (te := (tVar 5)) (by rfl) nd (pi_list (pe_df D__law_fields r1 (by rfl) (pa_cons (pe_slice sl_list (pv 1) po_none (po_some pe_int)) pa_nil)))
        (blkOk_by (N := nStays) (sc := (defScope sStays)) (by decide +kernel)) (fun _ _ _ _ _ => (pg_name (i := 5) scStays.nd rfl (Or.inl rfl))) (fun _ _ _ _ _ => (pts_one (pt_cmpR (op_neW (n := 0) hu1) (pe_df D_cards r5 (by rfl) (pa_cons (pv 0) (pa_cons (pv 5) pa_nil))) (pe_df D__law_cards r1 (by rfl) (pa_cons (pv 2) (pa_cons (pv 5) pa_nil))) (nomark _)))) (fun _ _ _ _ _ => (pv 5))) (pe_lst pa_nil) (nomark _)))
    have l40 := gd.l40
    have r12 := gd.r12
    obtain ⟨dx, gs, fr1, fr2, fr3, fr4⟩ := id pa.fre
    -- entries and rows
    refine ⟨_, rfl, a, dx, gs, rfl, fr1, fr2, a, xs, rs, rfl, pa.at_, fun E1 H1 s1 nE hE => ?_⟩
    refine ⟨_, rfl, n, _, rfl, .inl (SqL.of (s1 _ _ hn)), fun l nl => ?_⟩
    have sl := sn nl (o := .lst (xs.map V.str))
    refine ⟨true, lists_strs2 (SqL.of (sl _ _ hE)) (SqL.of upd_same), _, rfl, iteF ?_⟩
    have z1 := s1.trans sl
    refine ⟨_, rfl, a, dx, gs, rfl, z1 _ _ fr1, fr3, a, xs, rs, rfl, pa.at_.same z1, pa.le, fun R1 cs H2 s2 nR1 hR1 hcs ncs _ => ?_⟩
    have z2 := z1.trans s2
    refine ⟨_, rfl, R, rfl, ⟨_, SqL.of (z2 _ _ hR)⟩, fun D2 nD2 => lc_make (f := id) (z2 _ _ hR) (has.same z2) (by omega) nD2 (fun _ => rfl) (fun i r c H' Qk hr0 hc s' kk => ?_) fun ds H3 q1 q2 s3 => ?_⟩
    · exact ⟨_, rfl, c, _, rfl, .inl (SqL.of hc), fun l nl => kk l _ (sn nl) nl upd_same⟩
    rw [List.map_id] at q2
    refine ⟨true, lists_rowsT (s3 _ _ hR1) q1 (hcs.same s3) q2, _, rfl, iteF ?_⟩
    have z3 := z2.trans s3
    clear hE hR1 hcs ncs q1 q2 s1 s2 sl nl nE nR1 z1 z2 nD2
    -- places
    refine ⟨_, rfl, n, rfl, ⟨_, SqL.of (z3 _ _ hn)⟩, fun X nX => lc_list (K := K) (a := n) (xs := xs.map V.str) (fun i H' => H' X = some (.lst []) ∧ Same H3 H') ⟨upd_same, sn nX⟩ (fun i H' _ h => SqL.of ((z3.trans h.2) _ _ hn)) ?_ ?_⟩
    · rintro i y H4 hi ⟨u1, u2⟩
      rw [List.getElem?_map] at hi
      obtain ⟨z, hz, rfl⟩ := Option.map_eq_some_iff.mp hi
      have zx := List.mem_of_getElem? hz
      have zr : ∀ r ∈ rs, z ∈ r := fun r hr => (gd.pr r hr).mem_iff.mpr zx
      have z4 := z3.trans u2
      refine ⟨rfl, _, rfl, _, rfl, a, xs, rs, z, rfl, pa.same z4, zr, zx, fun D5 H5 s5 nD5 hD5 => ?_⟩
      have z5 := z4.trans s5
      have has5 := has.same z5
      refine ⟨_, rfl, R, rfl, ⟨_, SqL.of (z5 _ _ hR)⟩, fun D6 hD6 => lc_list (K := K) (a := R) (xs := as.map V.ref) (fun i H' => H' D6 = some (.lst (natsV ((rs.take i).map fun r => r.idxOf z))) ∧ Same H5 H') ⟨upd_same, sn hD6⟩ (fun i H' _ h => SqL.of (h.2 _ _ (z5 _ _ hR))) ?_ ?_⟩
      · rintro j y H' hj ⟨q1, q2⟩
        rw [List.getElem?_map] at hj
        obtain ⟨c1, hc1, rfl⟩ := Option.map_eq_some_iff.mp hj
        obtain ⟨r, hr1, hr2⟩ := has5.at hc1
        obtain ⟨x1, x2, x3⟩ := idx_ok (zr r (List.mem_of_getElem? hr1))
        refine ⟨rfl, _, rfl, .inl ⟨rfl, _, SqL.of (q2 _ _ hr2)⟩, _, rfl, c1, r.map V.str, .str z, r.idxOf z, .str z, rfl, rfl, SqL.of (q2 _ _ hr2), rfl, flat_strs, x1, x2, x3, _, q1, ?_, ?_, fun b o e => ?_⟩
        · refine small1000 ?_
          unfold natsV
          rw [List.length_map, List.length_map]
          have := List.length_take_le' j rs
          omega
        · rw [upd_same, List.take_succ, hr1, List.map_append]
          unfold natsV
          rw [List.map_append]
          rfl
        · rw [upd_ne (ne_of_none e hD6)]
          exact q2 _ _ e
      · rintro H6 ⟨q1, q2⟩
        rw [List.length_map, has.len, List.take_length] at q1
        refine ⟨true, lists_nats (SqL.of (q2 _ _ hD5)) (SqL.of q1), _, rfl, iteF ⟨q2 _ _ (s5 _ _ u1), (u2.trans s5).trans q2⟩⟩
    rintro H4 ⟨u1, u2⟩
    refine ⟨Nat.zero_le _, fun l nl => ?_⟩
    have sl := sn nl (o := .lst [])
    refine ⟨true, lists_nilT (sl _ _ u1) upd_same, _, rfl, iteF ?_⟩
    have z5 := (z3.trans u2).trans sl
    generalize upd H4 l (.lst []) = H5 at z5 ⊢
    clear u1 u2 sl nl nX z3
    -- cards
    refine ⟨_, rfl, _, rfl, n, _, rfl, SqL.of (z5 _ _ hn), fun T nT => ?_⟩
    have ec : cutV (xs.map V.str) none (some (4 : Int)) = (xs.take 4).map V.str := (cut_any (m := 4)).trans (by rw [← List.map_take])
    rw [ec]
    have sT := sn nT (o := .lst ((xs.take 4).map V.str))
    have t5 : (xs.take 4).length ≤ 4 := List.length_take_le 4 xs
    refine ⟨T, xs.take 4, rfl, upd_same, by omega, fun G ls H6 s6 nG hG hls => ?_⟩
    have z6 := (z5.trans sT).trans s6
    have lsub : ((subs (xs.take 4)).drop 1).length ≤ 128 := by rw [List.length_drop]; have := subs_le (xs := xs.take 4) (by omega); omega
    refine ⟨G, rfl, ⟨_, SqL.of hG⟩, fun X nX => lc_list (K := K) (a := G) (xs := ls.map V.ref) (fun i H' => H' X = some (.lst []) ∧ Same H6 H') ⟨upd_same, sn nX⟩ (fun i H' _ h => SqL.of (h.2 _ _ hG)) ?_ ?_⟩
    · rintro i y H7 hi ⟨u1, u2⟩
      rw [List.getElem?_map] at hi
      obtain ⟨c, hc, rfl⟩ := Option.map_eq_some_iff.mp hi
      obtain ⟨fs, hf1, hf2⟩ := hls.at hc
      obtain ⟨sub, f1⟩ := subs_drop (List.mem_of_getElem? hf1)
      have sub2 := sub.trans (List.take_sublist 4 xs)
      have lf := sub2.length_le
      have z7 := z6.trans u2
      have fa : FieldAt H7 c xs fs := ⟨u2 _ _ hf2, lot_subl (sorted_pw gd.so) gd.nd sub2, f1, by omega⟩
      refine ⟨rfl, _, rfl, _, rfl, a, c, xs, fs, rs, rfl, pa.same z7, fa, gd.pr, fun c1 E1 H8 s8 nE1 hE1 so1 nd1 mem1 _ => ?_⟩
      have z8 := z7.trans s8
      refine ⟨_, rfl, _, rfl, R, c, as, rs, fs, rfl, z8 _ _ hR, has.same z8, s8 _ _ fa.at_, fun r hr => by rw [(gd.pr r hr).length_eq]; omega, by omega, fun c2 E2 H9 s9 nE2 hE2 so2 nd2 mem2 _ => ?_⟩
      have e : c1 = c2 := sorted_ext so1 so2 nd1 nd2 fun z => by rw [mem1, mem2, mem_fstD2 fun r hr => fa.fst (gd.pr r hr)]
      subst e
      exact ⟨true, lists_strs2 (SqL.of (s9 _ _ hE1)) (SqL.of hE2), _, rfl, iteF ⟨s9 _ _ (s8 _ _ u1), (u2.trans s8).trans s9⟩⟩
    · rintro H7 ⟨u1, u2⟩
      refine ⟨Nat.zero_le _, fun l nl => ?_⟩
      have sl := sn nl (o := .lst [])
      exact ⟨true, lists_nilT (sl _ _ u1) upd_same, k _ ((z6.trans u2).trans sl)⟩
end
end K24

set_option maxHeartbeats 8000000
namespace K24
open PySem PySem.Spec PyProof.Rows L2 G1
/-- a def that calls repr: where it stands, what it promises -/
structure DfG (P : Program) (w : World) (K : PySem.W.Frag) (mg : Str → Option Value) (base : Heap) (k : Nat) (x : Str) (st : Stmt) (ps : List Str) (sp : Sp) : Prop where
  ex : ∃ (f : Addr) (fd : FuncData), FnP K x st f fd ∧ mg x = some (.ref f) ∧ FnG P w K mg base k f fd ps sp ∧ Binds K fd ps []
theorem pe_dfG {X : Cx} {k : Nat} {x : Str} {st : Stmt} {ps : List Str} {sp : Sp} {e : Expr} {es : List Expr} {t : TA} {p pos : Pos} (D : DfG X.prog X.w X.K X.mg X.base k x st ps sp) (hr : Room k X.A) (gd : Gd X.A) (hg : Gl X x) (ha : PA X (e :: es) t)
    (hdb : (x == ("__debug__" : Str)) = false := by decide) (he : starEach (e :: es) X.env = (false, eval e X.env) :: starEach es X.env := by rfl) (hpl : (backTo pos (starEach es X.env)).any (·.1) = false := by rfl) :
    PE X (.Call (.Name x p) (e :: es) [] pos) (tCall sp [] E0 t) := by
  obtain ⟨f, fd, F, g, G, b⟩ := D.ex
  exact pe_callG G gd hr hg g F.kp b .nil ha hdb he hpl
end K24

set_option maxHeartbeats 8000000
namespace K24
open PySem PySem.Spec PyProof.Rows L2 G1
/-- rows of entries, as a list of lists -/
structure LR (H : Hp) (R : Addr) (xs : List Str) (as : List Addr) (rs : List (List Str)) : Prop where
  at_ : H R = some (.lst (as.map V.ref))
  ra : RowsAt H as rs
  gd : GoodW xs rs
theorem LR.same {H H' : Hp} {R : Addr} {xs : List Str} {as : List Addr} {rs : List (List Str)} (h : LR H R xs as rs) (s : Same H H') : LR H' R xs as rs := ⟨s _ _ h.at_, h.ra.same s, h.gd⟩
theorem LR.ne {H : Hp} {R p : Addr} {c : Nat} {xs : List Str} {as : List Addr} {rs : List (List Str)} (h : LR H R xs as rs) (hp : Purse H p c) : R ≠ p := ne_purse h.at_ ref_no_int hp
theorem LR.but {H H' : Hp} {R p : Addr} {c : Nat} {xs : List Str} {as : List Addr} {rs : List (List Str)} (h : LR H R xs as rs) (hp : Purse H p c) (b : But p H H') : LR H' R xs as rs := ⟨b _ _ (h.ne hp) h.at_, h.ra.but b hp, h.gd⟩
theorem LR.r100 {H : Hp} {R : Addr} {xs : List Str} {as : List Addr} {rs : List (List Str)} (h : LR H R xs as rs) : (∀ r ∈ rs, r.length ≤ 100) ∧ rs.length ≤ 60 := ⟨fun r hr => by have := (h.gd.pr r hr).length_eq; have := h.gd.l40; omega, by have := h.gd.r12; omega⟩
theorem Duo.but {H H' : Hp} {C a b p : Addr} {c : Nat} {xs : List Str} {rs ts : List (List Str)} (h : Duo H C a b xs rs ts) (hp : Purse H p c) (bb : But p H H') : Duo H' C a b xs rs ts := ⟨h.pa.but hp bb, h.pb.but hp bb, h.ra, h.rb⟩
theorem no_purse {H : Hp} {p q : Addr} {c : Nat} (hp : Purse H p c) (nq : H q = none) : q ≠ p := fun e => by
  obtain ⟨v, hv, _⟩ := hp
  rw [← e, nq] at hv
  cases hv
def spPanR (C : Addr) : Sp := fun vs H Q _ => ∃ (n R : Addr) (xs ys : List Str) (as : List Addr) (rs : List (List Str)), vs = [.ref n, .ref R] ∧ H n = some (.lst (ys.map V.str)) ∧ xs.Perm ys ∧ LR H R xs as rs ∧
  ∀ (PN : Addr) (H' : Hp), Same H H' → H PN = none → PanF (newH H H') C PN xs rs → Q (.ref PN) H'
theorem new_base {H H3 H4 : Hp} (s : Same H H3) : Same (newH H3 H4) (newH H H4) := fun b o e => by
  by_cases q : H3 b = none
  · rw [new_at q] at e
    rw [new_at (s.free q)]
    exact e
  · rw [new_none q] at e
    cases e
def spDr2 : Sp := fun vs H Q _ => ∃ (p : Addr) (a b c : Nat), vs = [.ref p, .int (a : Int), .int (b : Int)] ∧ 1 ≤ a ∧ a ≤ 8 ∧ 1 ≤ b ∧ b ≤ 10 ∧ Purse H p c ∧ c ≤ 90000 ∧
  ∀ (T n R : Addr) (xs : List Str) (as : List Addr) (rs : List (List Str)) (H' : Hp), H T = none → H n = none → H R = none → H' T = some (.lst [.ref n, .ref R]) → H' n = some (.lst (xs.map V.str)) → LR H' R xs as rs → xs.length ≤ a → rs.length ≤ b + 1 → Purse H' p (c + 4200) → But p H H' → Q (.ref T) H'
def spTwo : Sp := fun vs H Q _ => ∃ (p : Addr) (a b c : Nat), vs = [.ref p, .int (a : Int), .int (b : Int)] ∧ 1 ≤ a ∧ a ≤ 8 ∧ 1 ≤ b ∧ b ≤ 5 ∧ Purse H p c ∧ c ≤ 90000 ∧
  ∀ (T n R S : Addr) (xs : List Str) (as bs : List Addr) (rs ts : List (List Str)) (H' : Hp), H T = none → H n = none → H' T = some (.lst [.ref n, .ref R, .ref S]) → H' n = some (.lst (xs.map V.str)) → LR H' R xs as rs → LR H' S xs bs ts → rs.length ≤ 8 → ts.length ≤ 8 → xs.length ≤ a → Purse H' p (c + 8300) → But p H H' → Q (.ref T) H'
section
variable {P : Program} {w : World} {K : PySem.W.Frag} {mg : Str → Option Value} {base : Heap} {C : Addr}
theorem ok_panR {f fI : Addr} {fd fdI : FuncData} (F : FnP K "_law_panel" sPanQ f fd) (LP : LibP mg) (M : Mk K C fI) (gP : mg "Panel" = some (.ref C)) (FI : FnM K "__init__" "Panel.__init__" sInit fI fdI) (GI : FnOk P w K mg base (L2.CX P w) 4 fI fdI ["self", "entries", "rows"] (spInit K C)) :
    FnOk P w K mg base CX0 6 f fd ["_law_names_here", "_law_rows"] (spPanR C) := by
  have bI : Binds K fdI ["self", "entries", "rows"] [] := FI.bindsN fun _ _ _ _ _ _ us hl => match us, hl with | [_, _, _], _ => rfl
  refine okN F scPanQ (fun vs H Q E h => ?_) (fun cdv A outer s H vs Q E hr h => ?_)
  · obtain ⟨_, _, _, _, _, _, rfl, _⟩ := h
    rfl
  · obtain ⟨n, R, xs, ys, as, rs, rfl, hn, px, ⟨hR, has, gd⟩, k⟩ := h
    have nd := scPanQ.nd
    have l40 := gd.l40
    have r12 := gd.r12
    have r5 : Room 5 (A.deeper (envOfC "_law_panel" (defScope sPanQ) s.heap.objs.size f cdv)) := hr.mono (by decide)
    refine' ⟨_, pss_one ?b0, ?_⟩
    case b0 => exact (ps_ret (pe_makeS M GI r5 (by rfl) gP bI (fun σ => passAt takes_none5 σ) (pa_cons (pe_callTy call_list_of (by rfl) LP.list (by decide +kernel) (pa_cons (pv 0) pa_nil)) (pa_cons (pe_lc (own := [("_law_row", 2)]) (g := gName 2) (tt := tYes) (te := (tCB (rCopyL2 K) (tCons (tVar 2) tNil))) (by rfl) nd (pi_list (pv 1))
        (blkOk_by (N := nPanQ) (sc := (defScope sPanQ)) (by decide +kernel)) (fun _ _ _ _ _ => (pg_name (i := 2) scPanQ.nd rfl (Or.inl rfl))) (fun _ _ _ _ _ => pts_nil) (fun _ _ _ _ _ => (pe_callTy call_list_of (by rfl) LP.list (by decide +kernel) (pa_cons (pv 2) pa_nil)))) pa_nil))))
    refine ⟨_, rfl, n, _, rfl, .inl (SqL.of hn), fun D1 nD1 => ?_⟩
    have s1 := sn nD1 (o := .lst (ys.map V.str))
    refine ⟨_, rfl, R, rfl, ⟨_, SqL.of (s1 _ _ hR)⟩, fun D2 nD2 => lc_make (f := id) (s1 _ _ hR) (has.same s1) (by omega) nD2 (fun _ => rfl) (fun i r c H' Qk hr0 hc s' kk => ?_) fun cs H3 q1 q2 s3 => ?_⟩
    · exact ⟨_, rfl, c, _, rfl, .inl (SqL.of hc), fun l nl => kk l _ (sn nl) nl upd_same⟩
    rw [List.map_id] at q2
    have ly := px.length_eq
    have l1 := gd.l1
    refine make_ok (zs := ys) (xs := xs) (s3 _ _ upd_same) (fun z hz => gd.nm z (px.mem_iff.mpr hz)) (px.nodup_iff.mp gd.nd) (by omega) (by omega) px gd.so q1 q2 gd.pr gd.r1 (by omega) fun PN H4 s4 nPN _ pan fre => ?_
    exact k PN H4 ((s1.trans s3).trans s4) ((s1.trans s3).free nPN) (PanF.same ⟨pan, fre, by omega⟩ (new_base (s1.trans s3)))
abbrev sDr2 : Stmt := top 51
abbrev nDr2 : List Str := ["_law_purse_here", "_law_most", "_law_stewards", "_law_names_here", "_law_rows", "_law_row"]
theorem scDr2 : FnScope nDr2 ["_law_purse_here", "_law_most", "_law_stewards"] (defScope sDr2) := ⟨rfl, rfl, rfl, by decide +kernel, rfl, by decide +kernel, by decide +kernel⟩
theorem ok_dr2 {f : Addr} {fd : FuncData} (F : FnP K "_law_drawn" sDr2 f fd) (LP : LibP mg) (li : mg "int" = none) (D__law_draw : Df P w K mg base 2 "_law_draw" sDraw ["_law_purse_here", "_law_many"] spDraw) (D__law_names : Df P w K mg base 4 "_law_names" sNames ["_law_purse_here", "_law_many"] spNames) (D__law_rows_of : Df P w K mg base 4 "_law_rows_of" sRows ["_law_purse_here", "_law_names_here", "_law_many"] (spRowsW K)) :
    FnOk P w K mg base CX0 5 f fd ["_law_purse_here", "_law_most", "_law_stewards"] spDr2 := by
  refine okN F scDr2 (fun vs H Q E h => ?_) (fun cdv A outer s H vs Q E hr h => ?_)
  · obtain ⟨_, _, _, _, rfl, _⟩ := h
    rfl
  · obtain ⟨p, a, b, c, rfl, a1, a8, b1, b10, hp, hc, k⟩ := h
    have nd := scDr2.nd
    have r2 : Room 2 (A.deeper (envOfC "_law_drawn" (defScope sDr2) s.heap.objs.size f cdv)) := hr.mono (by decide)
    have r4 : Room 4 (A.deeper (envOfC "_law_drawn" (defScope sDr2) s.heap.objs.size f cdv)) := hr.mono (by decide)
    refine' ⟨_, pss_cons ?b0 (pss_cons ?b1 (pss_one ?b2)), ?_⟩
    case b0 => exact (ps_set (i := 3) nd rfl (Or.inl rfl) (pe_df D__law_names r4 (by rfl) (pa_cons (pv 0) (pa_cons (pe_op op_add pe_int (pe_df D__law_draw r2 (by rfl) (pa_cons (pv 0) (pa_cons (pv 1) pa_nil)))) pa_nil))))
    case b1 => exact (ps_set (i := 4) nd rfl (Or.inl rfl) (pe_df D__law_rows_of r4 (by rfl) (pa_cons (pv 0) (pa_cons (pv 3) (pa_cons (pe_op op_add pe_int (pe_df D__law_draw r2 (by rfl) (pa_cons (pv 0) (pa_cons (pv 2) pa_nil)))) pa_nil)))))
    case b2 => exact (ps_ret (pe_lst (pa_cons (pv 3) (pa_cons (pe_op op_cat (pv 4) (pe_lc (own := [("_law_row", 5)]) (g := gName 5) (tt := tYes) (te := (tCB (rCopyL2 K) (tCons (tVar 5) tNil))) (by rfl) nd (pi_list (pe_slice sl_list (pv 4) po_none (po_some (pe_callTy call_int1 (by rfl) li (by decide +kernel) (pa_cons (pe_cmpR op_eq (pe_df D__law_draw r2 (by rfl) (pa_cons (pv 0) (pa_cons pe_int pa_nil))) pe_int (nomark _)) pa_nil)))))
        (blkOk_by (N := nDr2) (sc := (defScope sDr2)) (by decide +kernel)) (fun _ _ _ _ _ => (pg_name (i := 5) scDr2.nd rfl (Or.inl rfl))) (fun _ _ _ _ _ => pts_nil) (fun _ _ _ _ _ => (pe_callTy call_list_of (by rfl) LP.list (by decide +kernel) (pa_cons (pv 5) pa_nil))))) pa_nil))))
    refine ⟨_, rfl, _, rfl, _, rfl, p, (a : Int), c, rfl, by omega, by omega, hp, by omega, fun q1 H1 q10 q11 hp1 b1' => ⟨_, _, rfl, rfl, p, 1 + q1, c + 3, rfl, by omega, by omega, hp1, by omega, fun n xs H2 en hl hn nn hp2 b2 => ?_⟩⟩
    have npn : n ≠ p := ne_purse hn str_no_int hp2
    have nnH : H n = none := new_back b1' hp1 nn
    have bA := b1'.trans b2
    refine ⟨_, rfl, _, rfl, _, rfl, _, rfl, p, (b : Int), c + 3 + 100, rfl, by omega, by omega, hp2, by omega, fun q2 H3 q20 q21 hp3 b3 => ⟨_, _, rfl, rfl, p, n, 1 + q2, c + 3 + 100 + 3, xs, rfl, by omega, by omega, hp3, by omega, SqL.of (b3 _ _ npn hn), npn, en.nd, by omega, by omega, fun R as rs H4 hR nR has ncs hlr hrp hp4 b4 => ?_⟩⟩
    have bB := bA.trans b3
    have npR : R ≠ p := ne_purse hR ref_no_int hp4
    refine ⟨_, rfl, _, rfl, _, rfl, _, rfl, p, 4, _, rfl, by decide, by decide, hp4, by omega, fun q3 H5 q30 q31 hp5 b5 => ⟨rfl, .inr ⟨_, rfl, ?_⟩⟩⟩
    have hR5 := b5 _ _ npR hR
    have has5 := has.but b5 hp4
    have bC := (bB.trans b4).trans b5
    obtain ⟨m, hm, hm1⟩ : ∃ m : Nat, (if decide (V.int q3 = V.int 0) = true then (1 : Int) else 0) = (m : Int) ∧ m ≤ 1 := by
      split
      · exact ⟨1, rfl, by decide⟩
      · exact ⟨0, rfl, by decide⟩
    rw [hm]
    refine ⟨_, rfl, R, _, rfl, SqL.of hR5, fun S nS => ?_⟩
    rw [cut_any (m := m), ← List.map_take]
    have sS := sn nS (o := .lst ((as.take m).map V.ref))
    have hS := upd_same (H := H5) (a := S) (o := .lst ((as.take m).map V.ref))
    generalize upd H5 S (.lst ((as.take m).map V.ref)) = H6 at sS hS ⊢
    have has6 := has5.same sS
    have lm := List.length_take_le m rs
    refine ⟨S, rfl, ⟨_, SqL.of hS⟩, fun D nD => lc_make (f := id) hS (has6.tk m) (by omega) nD (fun _ => rfl) (fun i r c H' Qk hr0 hc s' kk => ?_) fun cs H7 q1 q2 s7 => ?_⟩
    · exact ⟨_, rfl, c, _, rfl, .inl (SqL.of hc), fun l nl => kk l _ (sn nl) nl upd_same⟩
    rw [List.map_id] at q2
    have s57 := sS.trans s7
    have lcs := q2.len
    have las := has.len
    refine ⟨R, D, _, _, rfl, rfl, s57 _ _ hR5, q1, by rw [List.length_map, List.length_map, sizeLine_eq]; omega, fun L nL => ?_⟩
    rw [← List.map_append]
    have sL := sn nL (o := .lst ((as ++ cs).map V.ref))
    have hL := upd_same (H := H7) (a := L) (o := .lst ((as ++ cs).map V.ref))
    generalize upd H7 L (.lst ((as ++ cs).map V.ref)) = H8 at sL hL ⊢
    refine ⟨(show 2 ≤ sizeLine by decide), fun T nT => ?_⟩
    have sT := sn nT (o := .lst [.ref n, .ref L])
    have s58 := s57.trans (sL.trans sT)
    have b58 : But p H5 (upd H8 T (.lst [.ref n, .ref L])) := But.same s58
    have bD := bC.trans b58
    have hp8 := hp5.same s58
    have gd : GoodW xs (rs ++ rs.take m) := ⟨en.nm, en.nd, by omega, by omega, en.so, fun r hr => (List.mem_append.mp hr).elim (hrp r) fun h => hrp r (List.mem_of_mem_take h), by rw [List.length_append]; omega, by rw [List.length_append]; omega⟩
    exact k T n L xs (as ++ cs) (rs ++ rs.take m) _ (new_back (bC.trans (But.same (s57.trans sL))) ((hp5.same s57).same sL) nT) nnH (new_back (bC.trans (But.same s57)) (hp5.same s57) nL) upd_same (b58 _ _ npn (b5 _ _ npn (b4 _ _ npn (b3 _ _ npn hn)))) ⟨sT _ _ hL, ((has5.same (s57.trans sL)).same sT).app ((q2.same sL).same sT), gd⟩ (by omega) (by rw [List.length_append]; omega) (hp8.mono (by omega)) bD
end
end K24

set_option maxHeartbeats 4000000
/-! What refusals want: not in over lists of texts, calls of an expression's value, calls by names, a try whose last clauses are never come to. -/
namespace G1
open PySem PySem.Spec PyProof.Rows L2
theorem pe_never {X : Cx} {e : Expr} : PE X e (fun _ _ _ => False) := ⟨fun _ _ _ _ _ _ h => h.elim⟩
/-- x not in a list of texts, x of any kind -/
def rNotInW (K : PySem.W.Frag) (n : Nat) : R2 := fun x y H Q => ∃ (p : Addr) (zs : List Str) (f : Str → Bool), y = .ref p ∧ SqL K H p (zs.map V.str) ∧ (∀ z ∈ zs, EqW K H n (.str z) x (f z)) ∧ Q (.bl (!zs.any f)) H
section
variable {X : Cx} {n : Nat}
theorem op_notInW (hu : X.A.units + (n + 1) < cLine) : OpR X (compareOp .NotIn) (rNotInW X.K n) := by
  intro pins s σ H x y v u Q I rx ry h
  obtain ⟨p, zs, f, rfl, hp, hf, q⟩ := h
  cases ry
  obtain ⟨is, r1, p1, _⟩ := I.list hp
  refine SeqAt.notIn_listAt (itemS f) p1.isList (fun w hw => ?_) ⟨.bl _, H, I, rfl, ?_⟩
  · obtain ⟨i, hi, e⟩ := List.mem_iff_getElem.mp (show w ∈ is by simpa using hw)
    obtain ⟨x1, hx1, rx1⟩ := vals_at r1 (i := i) (u := w) (by rw [← e]; exact List.getElem?_eq_getElem hi)
    rw [List.getElem?_map] at hx1
    obtain ⟨z, hz, rfl⟩ := Option.map_eq_some_iff.mp hx1
    have q1 := (hf z (List.mem_of_getElem? hz)).at I (A := X.A.in1) (by have := units_in1 X.A; omega) rx1 rx
    obtain ⟨k, rfl⟩ := rx1
    exact q1
  · rw [show is.toArray.any (itemS f) = is.any (itemS f) by simp, any_itemS r1]
    exact q
end
/-- the call of what an expression tells -/
def tCallX (f : Addr) (sp : Sp) (E : L2.St → XK) (tf : TE) (t : TA) : TE := fun σ H Q => tf σ H fun x H1 => x = .ref f ∧ t σ H1 fun vs H2 => sp vs H2 Q (E σ)
section
variable {X : Cx} {CX : CXT} {k : Nat} {f : Addr} {fd : FuncData} {ps : List Str} {sp : Sp} {E : L2.St → XK} {pos : Pos} {fe e : Expr} {es : List Expr} {tf : TE} {t : TA}
theorem pe_callX (F : FnOk X.prog X.w X.K X.mg X.base CX k f fd ps sp) (hr : Room k X.A) (hk : PySem.W.keepIn X.K (.ref f) = true) (hb : Binds X.K fd ps []) (hx : ∀ σ, PassesAt CX X σ (E σ)) (hf : PE X fe tf) (ha : PA X (e :: es) t)
    (he : eval (.Call fe (e :: es) [] pos) X.env = (do callWith pos (← eval fe X.env) [] (backTo pos (starEach (e :: es) X.env)) (backToKw pos (keywordEach [] X.env))) := by rfl)
    (hs : starEach (e :: es) X.env = (false, eval e X.env) :: starEach es X.env := by rfl) (hpl : (backTo pos (starEach es X.env)).any (·.1) = false := by rfl) : PE X (.Call fe (e :: es) [] pos) (tCallX f sp E tf t) := by
  constructor
  intro pins s0 σ H0 Q I0 h
  apply Call_ (he := he)
  refine thn (hf.run pins s0 σ H0 _ I0 h) fun u s1 z => ?_
  obtain ⟨x, H1, I1, rx, rfl, q1⟩ := z
  obtain rfl : u = Value.ref f := rx
  refine PySem.W.callWith_K (h₀ := X.base) I1.ok.mod.kin hk (thn (ha.run pos pins s1 σ H1 _ I1 q1) fun us s z => ?_) hs hpl
  obtain ⟨vs, H, I, r, q⟩ := z
  refine ⟨I.kIn, ?_⟩
  have r2 : Vals (vs ++ []) (us ++ []) := r.append .nil
  have q2 : sp (vs ++ []) H Q (E σ) := by rw [List.append_nil]; exact q
  have hl : (us ++ []).length = ps.length := by rw [← r2.length]; exact F.len _ _ _ _ q2
  refine wpAny_call (codeAny_mono (F.run X.A X.stack s H ⟨us, []⟩ (us ++ []) (vs ++ []) Q (E σ) hr I.env0 (hb s us I.kIn hl) r2 q2) fun r s' hq => ?_)
  match r, hq with
  | .error e, hq => exact hx σ pins H s e s' I hq
  | .ok (.ret u), hq => exact I.after hq
end
/-! ### calls by names alone -/
def gI {α : Type} (idx : List Nat) (us ws : List α) : List α := idx.filterMap fun i => (us ++ ws)[i]?
theorem gI_vals {vs zs : List V} {us ws : List Value} (r1 : Vals vs us) (r2 : Vals zs ws) : ∀ idx : List Nat, Vals (gI idx vs zs) (gI idx us ws)
  | [] => .nil
  | i :: idx => by
    have r := r1.append r2
    have ih := gI_vals r1 r2 idx
    unfold gI at ih ⊢
    rw [List.filterMap_cons, List.filterMap_cons]
    cases e : (vs ++ zs)[i]? with
    | none =>
      have e2 : (us ++ ws)[i]? = none := by
        rw [List.getElem?_eq_none_iff, ← r.length]
        exact List.getElem?_eq_none_iff.mp e
      rw [e2]
      exact ih
    | some v =>
      obtain ⟨u, hu, ru⟩ := r.get e
      rw [hu]
      exact .cons ru ih
theorem FunD.kbP {K : PySem.W.Frag} {x qual : Str} {params : Arguments} {body : List Stmt} {scope : Scope} {kws : List (Str × V)} {f : Addr} {fd : FuncData} {ps : List Str} (F : FunD K x qual params body scope [] kws f fd) (n : Nat) (ks : List Str) (idx : List Nat)
    (h : ∀ (kV doc pm : Value) (an : Option Addr) (cdv ct : Value) (us ws : List Value), us.length = n → ws.length = ks.length → bindArgs (PySem.W.fnOf x qual params body scope .none kV doc pm an cdv ct) ⟨us, ks.zip ws⟩ = pure (ps.zip (gI idx us ws))) :
    KBn K fd ps n ks (fun us ws => gI idx us ws) (fun vs zs => gI idx vs zs) := by
  obtain ⟨oc, od, dV, kV, doc, pm, an, cdv, ct, osl, rfl, lk, hcd, hD, hK⟩ := F.ex
  rcases hD with ⟨_, rfl⟩ | ⟨e, _⟩
  · exact ⟨fun s us ws X l1 l2 => .of_eq (h kV doc pm an cdv ct us ws l1 l2), fun r1 r2 => gI_vals r1 r2 idx⟩
  · exact absurd rfl e
def tCallN0 (m : Nat) (sp : Sp) (gV : List V → List V → List V) (E : XK) (tk : TA) : TE := fun σ H Q => tk σ H fun zs H2 => zs.length = m ∧ sp (gV [] zs) H2 Q E
def tMethN0 (C : Addr) (m : Str) (n : Nat) (sp : Sp) (gV : List V → List V → List V) (E : XK) (ta : TE) (tk : TA) : TE := fun σ H Q => ta σ H fun x H1 => ∃ a dx fs, x = .ref a ∧ H1 a = some (.ins C dx fs) ∧ fs.lookup m = none ∧ tk σ H1 fun zs H2 => zs.length = n ∧ sp (gV [x] zs) H2 Q E
section
variable {X : Cx} {CX : CXT} {k : Nat} {f C : Addr} {fd : FuncData} {ps ks : List Str} {sp : Sp} {E : XK} {x m : Str} {p pos apos : Pos} {o : Expr} {kws : List Keyword} {ta : TE} {tk : TA} {g : List Value → List Value → List Value} {gV : List V → List V → List V}
theorem pe_callN0 (F : FnOk X.prog X.w X.K X.mg X.base CX k f fd ps sp) (hr : Room k X.A) (hg : Gl X x) (hm : X.mg x = some (.ref f)) (hk : PySem.W.keepIn X.K (.ref f) = true) (hb : KBn X.K fd ps 0 ks g gV) (hx : Passes CX X E) (hkw : PK X kws tk)
    (hall : (backToKw pos (keywordEach kws X.env)).all (·.1.isSome) = true := by rfl) (hks : (backToKw pos (keywordEach kws X.env)).filterMap (·.1) = ks := by rfl) (hdb : (x == ("__debug__" : Str)) = false := by decide)
    (hpl : ((backTo pos (starEach [] X.env)).any (·.1) || (backToKw pos (keywordEach kws X.env)).any (·.1.isNone)) = false := by rfl) : PE X (.Call (.Name x p) [] kws pos) (tCallN0 ks.length sp gV E tk) := by
  constructor
  intro pins s σ H Q I h
  apply wpAny_Call_Name_kw (ld_glob I hg hm ?_ hdb)
  refine PySem.W.callWith_KW0 (h₀ := X.base) I.ok.mod.kin hk hall (thn (hkw.run pos pins s σ H _ I h) fun ws s1 z => ?_) hpl
  obtain ⟨zs, H1, I1, rz, l2, q⟩ := z
  refine ⟨I1.kIn, ?_⟩
  rw [hks]
  exact run_fnN (us := []) (vs := []) F hr hb hx I1 .nil rz rfl l2 q
theorem pe_methN0 {pl : Sem Bool} (he : PE X o ta) (c : Cls X.K C) (hm : Meth X.K C m f) (F : FnOk X.prog X.w X.K X.mg X.base CX k f fd ps sp) (hr : Room k X.A) (hb : KBn X.K fd ps 1 ks g gV) (hx : Passes CX X E) (hkw : PK X kws tk)
    (hall : (backToKw pos (keywordEach kws X.env)).all (·.1.isSome) = true := by rfl) (hks : (backToKw pos (keywordEach kws X.env)).filterMap (·.1) = ks := by rfl)
    (hpl : ((backTo pos (starEach [] X.env)).any (·.1) || (backToKw pos (keywordEach kws X.env)).any (·.1.isNone)) = false := by rfl)
    (ht : eval (.Call (.Attribute o m apos) [] kws pos) X.env = (do
      let ov ← eval o X.env
      standAt apos.atName
      let (f, first) ← holding [ov] (getMethod ov m pl)
      callWith pos f first (backTo pos (starEach [] X.env)) (backToKw pos (keywordEach kws X.env))) := by rfl) :
    PE X (.Call (.Attribute o m apos) [] kws pos) (tMethN0 C m ks.length sp gV E ta tk) := by
  constructor
  intro pins s σ H Q I h
  apply PySem.W.methodCall_KW (pl := pl) (he := ht)
  refine thn (he.run pins s σ H _ I h) fun u s1 z => ?_
  obtain ⟨x, H1, I1, rx, a, dx, fs, rfl, ea, l, q⟩ := z
  obtain rfl : u = Value.ref a := rx
  refine getmeth_ok I1 ea c hm l ?_
  refine PySem.W.callWith_KW0 (first := [.ref a]) (h₀ := X.base) I1.ok.mod.kin hm.kp hall (thn (hkw.run pos pins s1 σ H1 _ I1 q) fun ws s2 z => ?_) hpl
  obtain ⟨zs, H2, I2, rz, l2, q2⟩ := z
  refine ⟨I2.kIn, ?_⟩
  rw [hks]
  exact run_fnN (us := [.ref a]) (vs := [.ref a]) F hr hb hx I2 (.cons rfl .nil) rz rfl l2 q2
end
end G1

set_option maxHeartbeats 8000000
namespace K24
open PySem PySem.Spec PyProof.Rows L2 G1
theorem delH_self {H : Hp} {D : Addr} : delH H D D = none := by
  unfold delH
  simp
theorem delH_at {H : Hp} {D b : Addr} (h : b ≠ D) : delH H D b = H b := delH_ne h
theorem del_back {H H' : Hp} {D b : Addr} (s : Same (delH H D) (delH H' D)) (hD : H' D ≠ none) (h : H' b = none) : H b = none := by
  by_cases e : b = D
  · rw [e] at h
    exact absurd h hD
  · cases q : H b with
    | none => rfl
    | some o =>
      have q1 := s b o (by rw [delH_at e]; exact q)
      rw [delH_at e, h] at q1
      cases q1
theorem del_get {H H' : Hp} {D b : Addr} {o : HO} (s : Same (delH H D) (delH H' D)) (n : b ≠ D) (h : H b = some o) : H' b = some o := by
  have q := s b o (by rw [delH_at n]; exact h)
  rwa [delH_at n] at q
theorem del_same {H H' : Hp} {D : Addr} (s : Same H H') : Same (delH H D) (delH H' D) := fun b o e => by
  by_cases q : b = D
  · rw [q, delH_self] at e
    cases e
  · rw [delH_at q] at e ⊢
    exact s b o e
/-! ### the law's own look at the heats -/
def spGo (K : PySem.W.Frag) (d : Nat) : Sp := fun vs H Q _ => ∃ (R TL : Addr) (v : V) (as : List Addr) (rs : List (List Str)) (xs : List Str) (T : PT) (us : List Addr), vs = [.ref R, v, .ref TL] ∧ delH H TL R = some (.lst (as.map V.ref)) ∧ RowsAt (delH H TL) as rs ∧ Rw xs rs ∧ TrT (delH H TL) d v T ∧ (∀ z ∈ lvs T, z ∈ xs) ∧ (lvs T).length ≤ 60 ∧ d ≤ 20 ∧ H TL = some (.lst (us.map V.ref)) ∧ us.length + (told xs rs T).length ≤ 5000 ∧
  ∀ (E : Addr) (ts : List Addr) (H' : Hp), H' TL = some (.lst ((us ++ ts).map V.ref)) → Same (delH H TL) (delH H' TL) → TabP (fun a => H a = none) H' (cardsL xs rs) ts (told xs rs T) → H E = none → H' E = some (.lst ((gives xs rs T).map V.str)) → Q (.ref E) H'
def spHO (K : PySem.W.Frag) (d : Nat) : Sp := fun vs H Q _ => ∃ (R : Addr) (v : V) (as : List Addr) (rs : List (List Str)) (xs : List Str) (T : PT), vs = [.ref R, v] ∧ H R = some (.lst (as.map V.ref)) ∧ RowsAt H as rs ∧ Rw xs rs ∧ TrG H d v xs T ∧
  ∀ (D : Addr) (ts : List Addr) (H' : Hp), Same H H' → H D = none → H' D = some (.lst (ts.map V.ref)) → TabP (fun a => H a = none) H' (cardsL xs rs) ts (told xs rs T) → Q (.ref D) H'
def spCop (d : Nat) : Sp := fun vs H Q _ => ∃ (v : V) (T : PT), vs = [v] ∧ TrT H d v T ∧ ∀ (u : V) (H' : Hp), Same H H' → TrS (fun a => H a = none) H' d u T → Q u H'
def spOn (n : Nat) : Sp := fun vs H Q _ => ∃ (p f : Addr) (c : Nat) (fs : List Str), vs = [.ref p, .ref f] ∧ Purse H p c ∧ c + 10 * (fs.length * fs.length) ≤ 150000 ∧ H f = some (.lst (fs.map V.str)) ∧ 1 ≤ fs.length ∧ fs.length ≤ n + 1 ∧ n ≤ 20 ∧
  ∀ (v : V) (T : PT) (H' : Hp), TrS (fun a => H a = none) H' (n + 1) v T → (∀ z, z ∈ lvs T ↔ z ∈ fs) → (lvs T).length + 1 ≤ 2 * fs.length → Purse H' p (c + 10 * (fs.length * fs.length)) → But p H H' → Q v H'
section
variable {P : Program} {w : World} {K : PySem.W.Frag} {mg : Str → Option Value} {base : Heap} {C : Addr}
abbrev sGoesOn : Stmt := top 55
abbrev nGoesOn : List Str := ["_law_rows", "_law_tree", "_law_told", "_law_field", "_law_one"]
theorem scGoesOn : FnScope nGoesOn ["_law_rows", "_law_tree", "_law_told"] (defScope sGoesOn) := ⟨rfl, rfl, rfl, by decide +kernel, rfl, by decide +kernel, by decide +kernel⟩
theorem go_leaf {H : Hp} {z : Str} {xs : List Str} {rs : List (List Str)} {Q : VK} {TL : Addr} {us : List Addr} (hT : H TL = some (.lst (us.map V.ref)))
    (k : ∀ (E : Addr) (ts : List Addr) (H' : Hp), H' TL = some (.lst ((us ++ ts).map V.ref)) → Same (delH H TL) (delH H' TL) → TabP (fun a => H a = none) H' (cardsL xs rs) ts (told xs rs (.leaf z)) → H E = none → H' E = some (.lst ((gives xs rs (.leaf z)).map V.str)) → Q (.ref E) H')
    {E : Addr} (nE : H E = none) : Q (.ref E) (upd H E (.lst [.str z])) := by
  have s1 := sn nE (o := .lst [.str z])
  refine k E [] _ (by rw [List.append_nil]; exact s1 _ _ hT) (del_same s1) ?_ nE ?_
  · rw [told]
    exact .nil
  · rw [gives]
    exact upd_same
theorem ok_goesOn {f : Addr} {fd : FuncData} (F : FnP K "_law_goes_on" sGoesOn f fd) (g : mg "_law_goes_on" = some (.ref f)) (LP : LibP mg) (D__law_cards : Df P w K mg base 1 "_law_cards" sLC ["_law_rows", "_law_field"] (spLC K)) : ∀ d : Nat, FnOk P w K mg base CX0 (d + 2) f fd ["_law_rows", "_law_tree", "_law_told"] (spGo K d)
  | 0 => by
    refine okN F scGoesOn (fun vs H Q E h => ?_) (fun cdv A outer s H vs Q E hr h => ?_)
    · obtain ⟨_, _, _, _, _, _, _, _, rfl, _⟩ := h
      rfl
    · obtain ⟨R, TL, v, as, rs, xs, T, us, rfl, hR, ras, ra, ⟨z, rfl, rfl⟩, sub, l60, d20, hT, lu, k⟩ := h
      refine ⟨_, pss_cons (ps_if (pt_not (pt_val (pe_callB call_isi (by rfl) LP.isi (by decide +kernel) (pa_cons (pv 1) (pa_cons (pe_bltn (v := .ty "list") (by rfl) LP.list (by decide +kernel) rfl) pa_nil))))) (pss_one (ps_ret (pe_lst (pa_cons (pv 1) pa_nil)))) pss_nil) (pss_cons ps_never (pss_cons ps_never (pss_cons ps_never (pss_cons ps_never (pss_one ps_never))))), ?_⟩
      refine ⟨_, rfl, .str z, .ty "list", .type "str", .type "list", false, rfl, .ty _, .base (.str z), kit_ty (by decide +kernel), _, rfl, iteT ?_⟩
      exact ⟨_, rfl, (show 1 ≤ sizeLine by decide), fun E1 nE => go_leaf hT k nE⟩
  | d + 1 => by
    have D : Df P w K mg base (d + 2) "_law_goes_on" sGoesOn ["_law_rows", "_law_tree", "_law_told"] (spGo K d) := ⟨⟨f, fd, F, g, ok_goesOn F g LP D__law_cards d, F.bindsN fun _ _ _ _ _ _ us hl => match us, hl with | [_, _, _], _ => rfl⟩⟩
    refine okN F scGoesOn (fun vs H Q E h => ?_) (fun cdv A outer s H vs Q E hr h => ?_)
    · obtain ⟨_, _, _, _, _, _, _, _, rfl, _⟩ := h
      rfl
    · obtain ⟨R, TL, v, as, rs, xs, T, us, rfl, hR, ras, ra, tr, sub, l60, d20, hT, lu, k⟩ := h
      have nd := scGoesOn.nd
      have r1 : Room 1 (A.deeper (envOfC "_law_goes_on" (defScope sGoesOn) s.heap.objs.size f cdv)) := hr.mono (by omega)
      refine' ⟨_, pss_cons ?b0 (pss_cons (ps_set (i := 3) nd rfl (Or.inl rfl) (pe_lst pa_nil)) (pss_cons (ps_for PassesOwn.never rfl (pi_list (pv 1)) (pg_name (i := 4) nd rfl (Or.inl rfl)) (pss_one ?b1)) (pss_cons ?b2 (pss_cons ?b3 (pss_one ?b4))))), ?_⟩
      case b0 => exact (ps_if (pt_not (pt_val (pe_callB call_isi (by rfl) LP.isi (by decide +kernel) (pa_cons (pv 1) (pa_cons (pe_bltn (v := .ty "list") (by rfl) LP.list (by decide +kernel) rfl) pa_nil))))) (pss_one (ps_ret (pe_lst (pa_cons (pv 1) pa_nil)))) pss_nil)
      case b1 => exact (ps_set (i := 3) nd rfl (Or.inl rfl) (pe_op op_cat (pv 3) (pe_df D hr (by rfl) (pa_cons (pv 0) (pa_cons (pv 4) (pa_cons (pv 2) pa_nil))))))
      case b2 => exact (ps_set (i := 3) nd rfl (Or.inl rfl) (pe_sortS rfl (by rfl) LP.sorted (by rfl) LP.set (pv 3)))
      case b3 => exact (ps_expr (pe_bm PySem.F.plainAttrs_list PySem.F.slot_list_append PySem.F.type_list_append mt_append (pv 2) (pa_cons (pe_tup (pa_cons (pv 3) (pa_cons (pe_df D__law_cards r1 (by rfl) (pa_cons (pv 0) (pa_cons (pv 3) pa_nil))) pa_nil))) pa_nil)))
      case b4 => exact (ps_ret (pe_callTy call_list_of (by rfl) LP.list (by decide +kernel) (pa_cons (pe_ix ix_tup (pe_ix ix_list (pv 2) (pe_un un_neg pe_int) (fun _ _ => rfl)) pe_int (fun _ _ => rfl)) pa_nil)))
      have tr0 := tr
      rcases tr with ⟨z, rfl, rfl⟩ | ⟨a, vs, ts, rfl, _, ha, l1, l2, l3, f0, rfl⟩
      · refine ⟨_, rfl, .str z, .ty "list", .type "str", .type "list", false, rfl, .ty _, .base (.str z), kit_ty (by decide +kernel), _, rfl, iteT ?_⟩
        exact ⟨_, rfl, (show 1 ≤ sizeLine by decide), fun E1 nE => go_leaf hT k nE⟩
      · refine ⟨_, rfl, .ref a, .ty "list", .type "list", .type "list", true, rfl, .ty _, .base (.lst (del_sub _ _ ha)), kit_ty (by decide +kernel), _, rfl, iteF ?_⟩
        have t1 := tr0.l1
        have many := tr0.many (xs := xs) (rs := rs)
        have nT : H TL ≠ none := by rw [hT]; exact fun e => nomatch e
        have neT : ∀ {b : Addr}, H b = none → b ≠ TL := fun h e => nT (e ▸ h)
        rw [lvs] at sub l60 t1 many
        rw [told, List.length_append, List.length_singleton] at lu
        refine ⟨Nat.zero_le _, fun F0 nF0 => ?_⟩
        have sF := sn nF0 (o := .lst [])
        refine ⟨_, rfl, a, rfl, ⟨_, SqL.of (sF _ _ (del_sub _ _ ha))⟩, for_list (K := K) (a := a) (xs := vs) (fun i σ H' => ∃ (o4 : Option V) (F1 : Addr) (qs : List Addr), σ = [some (.ref R), some (.ref a), some (.ref TL), some (.ref F1), o4] ∧ H' F1 = some (.lst ((givesL xs rs (ts.take i)).map V.str)) ∧ H F1 = none ∧ (givesL xs rs (ts.take i)).length ≤ (lvsL (ts.take i)).length ∧ H' TL = some (.lst ((us ++ qs).map V.ref)) ∧ TabP (fun a => H a = none) H' (cardsL xs rs) qs (toldL xs rs (ts.take i)) ∧ Same (delH H TL) (delH H' TL))
          ⟨none, F0, [], rfl, by rw [List.take_zero, givesL]; exact upd_same, nF0, by rw [List.take_zero, givesL]; exact Nat.zero_le _, by rw [List.append_nil]; exact sF _ _ hT, by rw [List.take_zero, toldL]; exact .nil, del_same sF⟩ (fun i σ H' _ h => by obtain ⟨_, _, _, _, _, _, _, _, _, h⟩ := h; exact SqL.of (del_sub _ _ (h _ _ ha))) ?_ ?_⟩
        · rintro i x σ H1 hx ⟨o4, F1, qs, rfl, hF, nF, lg, hT1, tb, s1⟩
          have il : i < vs.length := (List.getElem?_eq_some_iff.mp hx).1
          obtain ⟨t, ht⟩ : ∃ t, ts[i]? = some t := ⟨_, List.getElem?_eq_getElem (by omega)⟩
          have tri := f0 i x t hx ht
          have subi : ∀ z ∈ lvs t, z ∈ xs := fun z hz => sub z (lvs_in ht z hz)
          have lle := lvsL_le ht
          have gi := tri.glen ra subi
          have ltb := tb.len
          have tle := toldL_le (xs := xs) (rs := rs) (ts := ts) (i := i + 1)
          rw [toldL_take ht, List.length_append] at tle
          refine ⟨_, rfl, _, rfl, _, rfl, _, rfl, R, TL, x, as, rs, xs, t, us ++ qs, rfl, s1 _ _ hR, ras.same s1, ra, TrS.same tri s1, subi, by omega, by omega, hT1, by rw [List.length_append]; omega, fun E1 ks H2 hT2 s2 tb2 nE hE => ?_⟩
          have s12 := s1.trans s2
          have nT2 : H2 TL ≠ none := by rw [hT2]; exact fun e => nomatch e
          have nT1 : H1 TL ≠ none := by rw [hT1]; exact fun e => nomatch e
          refine ⟨F1, E1, _, _, rfl, rfl, del_get s2 (neT nF) hF, hE, by rw [List.length_map, List.length_map, sizeLine_eq]; omega, fun F2 nF2 => ?_⟩
          rw [← List.map_append, ← givesL_take ht]
          have s3 := sn nF2 (o := .lst ((givesL xs rs (ts.take (i + 1))).map V.str))
          have hF2 := upd_same (H := H2) (a := F2) (o := .lst ((givesL xs rs (ts.take (i + 1))).map V.str))
          generalize upd H2 F2 (.lst ((givesL xs rs (ts.take (i + 1))).map V.str)) = H3 at s3 hF2 ⊢
          refine ⟨_, F2, qs ++ ks, rfl, hF2, del_back s12 nT2 nF2, by rw [givesL_take ht, lvsL_take ht, List.length_append, List.length_append]; omega, by rw [← List.append_assoc]; exact s3 _ _ hT2, ?_, s12.trans (del_same s3)⟩
          rw [toldL_take ht]
          exact (tb.keep (fun _ h => h) fun b o h e => s3 _ _ (del_get s2 (neT h) e)).app (tb2.keep (fun b h => del_back s1 nT1 h) fun b o _ e => s3 b o e)
        · rintro σ H1 ⟨o4, F1, qs, rfl, hF, nF, lg, hT1, tb, s1⟩
          rw [← l3, List.take_length] at tb hF lg
          have nT1 : H1 TL ≠ none := by rw [hT1]; exact fun e => nomatch e
          have ltb := tb.len
          refine ⟨_, rfl, F1, _, rfl, SqL.of hF, by omega, fun ys p so nd2 my le np => ?_⟩
          have gsub : ∀ z ∈ givesL xs rs ts, z ∈ lvsL ts := fun z hz => by
            rw [givesL_eq] at hz
            obtain ⟨_, hm, hz⟩ := List.mem_flatten.mp hz
            obtain ⟨t, ht, rfl⟩ := List.mem_map.mp hm
            obtain ⟨i, hi⟩ := List.mem_iff_getElem?.mp ht
            obtain ⟨x, hx⟩ : ∃ x, vs[i]? = some x := ⟨_, List.getElem?_eq_getElem (by have := (List.getElem?_eq_some_iff.mp hi).1; omega)⟩
            exact lvs_in hi z (gives_sub ra (f0 i x t hx hi) (fun y hy => sub y (lvs_in hi y hy)) z hz)
          have gx : ∀ z ∈ givesL xs rs ts, z ∈ xs := fun z hz => sub z (gsub z hz)
          have ey : ys = fldL xs (givesL xs rs ts) := by
            refine sorted_ext so (sorted_filter ra.so) nd2 (ra.nd.sublist List.filter_sublist) fun z => ?_
            rw [my z, mem_fld gx]
          subst ey
          have s2 := sn np (o := .lst ((fldL xs (givesL xs rs ts)).map V.str))
          have hp := upd_same (H := H1) (a := p) (o := .lst ((fldL xs (givesL xs rs ts)).map V.str))
          generalize upd H1 p (.lst ((fldL xs (givesL xs rs ts)).map V.str)) = H2 at s2 hp ⊢
          have s12 := s1.trans (del_same s2)
          have rl : ∀ r ∈ rs, r.length ≤ 100 := fun r hr => by have := (ra.pr r hr).length_eq; have := ra.le; omega
          refine ⟨_, rfl, .inl ⟨rfl, _, SqL.of (s2 _ _ hT1)⟩, _, rfl, _, rfl, _, rfl, R, p, as, rs, _, rfl, del_sub _ _ (s12 _ _ hR), (ras.same s12).same del_sub, hp, rl, ra.l60, fun ys2 Gv H3 s3 nGv hGv so2 nd3 mem2 _ => ?_⟩
          obtain rfl := lc_eq ra.pr ra.so ra.nd so2 nd3 mem2
          refine ⟨(show 2 ≤ sizeLine by decide), fun Tp nTp => ?_⟩
          have s4 := sn nTp (o := .tup [.ref p, .ref Gv])
          have hTp := upd_same (H := H3) (a := Tp) (o := .tup [.ref p, .ref Gv])
          generalize upd H3 Tp (.tup [.ref p, .ref Gv]) = H4 at s4 hTp ⊢
          have s24 := s3.trans s4
          have s14 := s12.trans (del_same s24)
          have hT4 := (s2.trans s24) _ _ hT1
          refine ⟨TL, _, _, rfl, rfl, hT4, by rw [List.length_map, List.length_append, sizeLine_eq]; omega, ?_⟩
          have nT4 : H4 TL ≠ none := by rw [hT4]; exact fun e => nomatch e
          have nT2 : H2 TL ≠ none := by rw [s2 _ _ hT1]; exact fun e => nomatch e
          have nT3 : H3 TL ≠ none := by rw [s3 _ _ (s2 _ _ hT1)]; exact fun e => nomatch e
          have nP0 : H p = none := del_back s1 nT1 np
          have nG0 : H Gv = none := del_back s12 nT2 nGv
          have nTp0 : H Tp = none := del_back (s12.trans (del_same s3)) nT3 nTp
          have u5 : ∀ {b : Addr} {o : HO}, b ≠ TL → H4 b = some o → upd H4 TL (.lst ((us ++ qs).map V.ref ++ [.ref Tp])) b = some o := fun n e => by rw [upd_ne n]; exact e
          have hT5 : upd H4 TL (.lst ((us ++ qs).map V.ref ++ [.ref Tp])) TL = some (.lst ((us ++ (qs ++ [Tp])).map V.ref)) := by
            rw [upd_same, ← List.append_assoc, List.map_append (l₂ := [Tp])]
            rfl
          have s5 : Same (delH H4 TL) (delH (upd H4 TL (.lst ((us ++ qs).map V.ref ++ [.ref Tp]))) TL) := del_upd
          have hTp5 := u5 (neT nTp0) hTp
          have hG5 := u5 (neT nG0) (s4 _ _ hGv)
          have hp5 := u5 (neT nP0) (s24 _ _ hp)
          have tb5 : TabP (fun a => H a = none) (upd H4 TL (.lst ((us ++ qs).map V.ref ++ [.ref Tp]))) (cardsL xs rs) qs (toldL xs rs ts) := tb.keep (fun _ h => h) fun b o h e => u5 (neT h) ((s2.trans s24) _ _ e)
          have last5 : SqL K (upd H4 TL (.lst ((us ++ qs).map V.ref ++ [.ref Tp]))) TL ((us ++ qs).map V.ref ++ [.ref Tp]) := SqL.of upd_same
          generalize upd H4 TL (.lst ((us ++ qs).map V.ref ++ [.ref Tp])) = H5 at hT5 s5 hTp5 hG5 hp5 tb5 last5 ⊢
          refine ⟨_, rfl, _, rfl, TL, _, _, .ref Tp, rfl, rfl, last5, atI_last _ _, Tp, _, _, .ref Gv, rfl, rfl, SqT.of hTp5, atI_nat (j := 1) rfl, Gv, _, rfl, .inl (SqL.of hG5), fun E5 nE5 => ?_⟩
          have s15 := s14.trans s5
          have nT5 : H5 TL ≠ none := by rw [hT5]; exact fun e => nomatch e
          have s6 := sn nE5 (o := .lst ((cardsL xs rs (fldL xs (givesL xs rs ts))).map V.str))
          refine k E5 (qs ++ [Tp]) _ (s6 _ _ hT5) (s15.trans (del_same s6)) ?_ (del_back s15 nT5 nE5) (by rw [gives]; exact upd_same)
          rw [told]
          exact (tb5.snoc nTp0 nP0 nG0 hTp5 hp5 hG5).keep (fun _ h => h) fun b o _ e => s6 b o e
abbrev sHeatsOf : Stmt := top 58
abbrev nHeatsOf : List Str := ["_law_rows", "_law_tree", "_law_told"]
theorem scHeatsOf : FnScope nHeatsOf ["_law_rows", "_law_tree"] (defScope sHeatsOf) := ⟨rfl, rfl, rfl, by decide +kernel, rfl, by decide +kernel, by decide +kernel⟩
theorem ok_heatsOf {d : Nat} {f : Addr} {fd : FuncData} (F : FnP K "_law_heats_of" sHeatsOf f fd) (d20 : d ≤ 20) (D__law_goes_on : Df P w K mg base (d + 2) "_law_goes_on" sGoesOn ["_law_rows", "_law_tree", "_law_told"] (spGo K d)) :
    FnOk P w K mg base CX0 (d + 3) f fd ["_law_rows", "_law_tree"] (spHO K d) := by
  refine okN F scHeatsOf (fun vs H Q E h => ?_) (fun cdv A outer s H vs Q E hr h => ?_)
  · obtain ⟨_, _, _, _, _, _, rfl, _⟩ := h
    rfl
  · obtain ⟨R, v, as, rs, xs, T, rfl, hR, ras, ra, tr, k⟩ := h
    have nd := scHeatsOf.nd
    refine' ⟨_, pss_cons (ps_set (i := 2) nd rfl (Or.inl rfl) (pe_lst pa_nil)) (pss_cons ?b0 (pss_one (ps_ret (pv 2)))), ?_⟩
    case b0 => exact (ps_expr (pe_df D__law_goes_on hr (by rfl) (pa_cons (pv 0) (pa_cons (pv 1) (pa_cons (pv 2) pa_nil)))))
    have many := tr.tr.many (xs := xs) (rs := rs)
    have dl : d * (lvs T).length ≤ 20 * 60 := Nat.mul_le_mul d20 tr.l60
    refine ⟨Nat.zero_le _, fun TL nTL => ?_⟩
    have s0 : Same H (delH (upd H TL (.lst [])) TL) := same_del (sn nTL) nTL
    have sU := sn nTL (o := .lst [])
    have hU := upd_same (H := H) (a := TL) (o := .lst [])
    generalize upd H TL (.lst []) = H1 at s0 sU hU ⊢
    refine ⟨_, rfl, _, rfl, _, rfl, R, TL, v, as, rs, xs, T, [], rfl, s0 _ _ hR, ras.same s0, ra, TrS.same tr.tr s0, tr.sub, tr.l60, d20, hU, by simp; omega, fun E ts H2 hT s1 tb nE hE => ?_⟩
    rw [List.nil_append] at hT
    exact ⟨_, rfl, k TL ts H2 ((s0.trans s1).trans del_sub) nTL hT (tb.keep (fun b h => sU.free h) fun _ _ _ e => e)⟩
abbrev sTCop : Stmt := top 56
abbrev nTCop : List Str := ["_law_tree", "_law_one"]
theorem scTCop : FnScope nTCop ["_law_tree"] (defScope sTCop) := ⟨rfl, rfl, rfl, by decide +kernel, rfl, by decide +kernel, by decide +kernel⟩
theorem ok_tCop {f : Addr} {fd : FuncData} (F : FnP K "_law_tree_copied" sTCop f fd) (g : mg "_law_tree_copied" = some (.ref f)) (LP : LibP mg) : ∀ d : Nat, FnOk P w K mg base CX0 (d + 1) f fd ["_law_tree"] (spCop d)
  | 0 => by
    refine okN F scTCop (fun vs H Q E h => ?_) (fun cdv A outer s H vs Q E hr h => ?_)
    · obtain ⟨_, _, rfl, _⟩ := h
      rfl
    · obtain ⟨v, T, rfl, ⟨z, rfl, rfl⟩, k⟩ := h
      refine ⟨_, pss_one (ps_ret (pe_ifExp (pt_val (pe_callB call_isi (by rfl) LP.isi (by decide +kernel) (pa_cons (pv 0) (pa_cons (pe_bltn (v := .ty "list") (by rfl) LP.list (by decide +kernel) rfl) pa_nil)))) pe_never (pv 0))), ?_⟩
      refine ⟨_, rfl, .str z, .ty "list", .type "str", .type "list", false, rfl, .ty _, .base (.str z), kit_ty (by decide +kernel), _, rfl, iteF ?_⟩
      exact ⟨_, rfl, k _ H (fun _ _ h => h) TrS.leaf⟩
  | d + 1 => by
    have D : Df P w K mg base (d + 1) "_law_tree_copied" sTCop ["_law_tree"] (spCop d) := ⟨⟨f, fd, F, g, ok_tCop F g LP d, F.bindsN fun _ _ _ _ _ _ us hl => match us, hl with | [_], _ => rfl⟩⟩
    refine okN F scTCop (fun vs H Q E h => ?_) (fun cdv A outer s H vs Q E hr h => ?_)
    · obtain ⟨_, _, rfl, _⟩ := h
      rfl
    · obtain ⟨v, T, rfl, tr, k⟩ := h
      have nd := scTCop.nd
      refine ⟨_, pss_one (ps_ret (pe_ifExp (pt_val (pe_callB call_isi (by rfl) LP.isi (by decide +kernel) (pa_cons (pv 0) (pa_cons (pe_bltn (v := .ty "list") (by rfl) LP.list (by decide +kernel) rfl) pa_nil)))) (pe_lc (own := [("_law_one", 1)]) (g := gName 1) (tt := tYes) (te := tCall (spCop d) [] E0 (tCons (tVar 1) tNil)) (by rfl) nd (pi_list (pv 0))
        (blkOk_by (N := nTCop) (sc := (defScope sTCop)) (by decide +kernel)) (fun _ _ _ _ _ => (pg_name (i := 1) scTCop.nd rfl (Or.inl rfl))) (fun _ _ _ _ _ => pts_nil) (fun _ _ _ _ _ => (pe_df D hr (by rfl) (pa_cons (pv 1) pa_nil)))) (pv 0))), ?_⟩
      rcases tr with ⟨z, rfl, rfl⟩ | ⟨a, vs, ts, rfl, _, ha, l1, l2, l3, f0, rfl⟩
      · refine ⟨_, rfl, .str z, .ty "list", .type "str", .type "list", false, rfl, .ty _, .base (.str z), kit_ty (by decide +kernel), _, rfl, iteF ?_⟩
        exact ⟨_, rfl, k _ H (fun _ _ h => h) TrS.leaf⟩
      · refine ⟨_, rfl, .ref a, .ty "list", .type "list", .type "list", true, rfl, .ty _, .base (.lst ha), kit_ty (by decide +kernel), _, rfl, iteT ?_⟩
        refine ⟨_, rfl, a, rfl, ⟨_, SqL.of ha⟩, fun D' nD => lc_list (K := K) (a := a) (xs := vs) (fun i H' => ∃ us : List V, H' D' = some (.lst us) ∧ us.length = i ∧ (∀ (j : Nat) (x : V) (t : PT), us[j]? = some x → ts[j]? = some t → TrS (fun b => H b = none ∧ b ≠ D') H' d x t) ∧ Same H H')
          ⟨[], upd_same, rfl, (fun j x m h => nomatch h), sn nD⟩ (fun i H' _ h => by obtain ⟨_, _, _, _, h⟩ := h; exact SqL.of (h _ _ ha)) ?_ ?_⟩
        · rintro i x H' hx ⟨us, w1, lu, wt, w2⟩
          have il : i < vs.length := (List.getElem?_eq_some_iff.mp hx).1
          obtain ⟨t, ht⟩ : ∃ t, ts[i]? = some t := ⟨_, List.getElem?_eq_getElem (by omega)⟩
          refine ⟨rfl, _, rfl, x, t, rfl, TrS.same (f0 i x t hx ht) w2, fun u H'' s'' tu => ⟨us, s'' _ _ w1, small1000 (by omega), us ++ [u], upd_same, by rw [List.length_append, lu]; rfl, ?_, fun b o hb => ?_⟩⟩
          · rintro j y q hy hq
            by_cases e : j < i
            · rw [List.getElem?_append_left (by omega)] at hy
              refine TrS.keep (fun b h _ => h) (fun b o h ho => ?_) (wt j y q hy hq)
              rw [upd_ne h.2]
              exact s'' _ _ ho
            · have e2 : j = i := by
                have := (List.getElem?_eq_some_iff.mp hy).1
                rw [List.length_append, lu, List.length_singleton] at this
                omega
              subst e2
              rw [List.getElem?_append_right (by omega), lu, Nat.sub_self] at hy
              obtain rfl := Option.some.inj hy
              rw [ht] at hq
              obtain rfl := Option.some.inj hq
              have ne : ∀ b, H' b = none → b ≠ D' := fun b h e => by rw [e, w1] at h; cases h
              refine TrS.keep (fun b h _ => ⟨w2.free h, ne b h⟩) (fun b o h ho => ?_) tu
              rw [upd_ne (ne b h)]
              exact ho
          · rw [upd_ne (ne_of_none hb nD)]
            exact s'' _ _ (w2 _ _ hb)
        · rintro H2 ⟨us, w1, lu, wt, w2⟩
          exact k (.ref D') H2 w2 (.inr ⟨D', us, ts, rfl, nD, w1, by omega, by omega, by omega, fun j x t hx ht => TrS.keep (fun b h _ => h.1) (fun b o _ ho => ho) (wt j x t hx ht), rfl⟩)
end
end K24

set_option maxHeartbeats 8000000
namespace K24
open PySem PySem.Spec PyProof.Rows L2 G1
theorem cost_on {a b : Nat} (ha : 1 ≤ a) (hb : 1 ≤ b) : 10 * (a * a) + 10 * (b * b) + 3 * (a + b) + 9 ≤ 10 * ((a + b) * (a + b)) := by
  obtain ⟨a, rfl⟩ : ∃ x, a = x + 1 := ⟨a - 1, by omega⟩
  obtain ⟨b, rfl⟩ : ∃ x, b = x + 1 := ⟨b - 1, by omega⟩
  have e := Nat.mul_comm b a
  simp only [Nat.add_mul, Nat.mul_add, Nat.one_mul, Nat.mul_one]
  omega
theorem cut_from {xs : List V} {n : Nat} (h : n ≤ xs.length) : cutV xs (some (n : Int)) none = xs.drop n := by
  have e : HT.sIx xs.length 0 (some (n : Int)) = n := by
    rw [HT.sIx_nat]
    omega
  unfold cutV
  rw [e, show HT.sIx xs.length xs.length none = xs.length from rfl]
  exact List.take_of_length_le (by rw [List.length_drop]; exact Nat.le_refl _)
theorem lvsL_leaf : ∀ zs : List Str, lvsL (zs.map PT.leaf) = zs
  | [] => by simp [lvsL]
  | z :: zs => by
    have ih := lvsL_leaf zs
    simp only [List.map_cons, lvsL, lvs, ih, List.singleton_append]
theorem Purse.lt {H : Hp} {p q : Addr} {c : Nat} (hp : Purse H p c) (nq : H q = none) : q ≠ p := no_purse hp nq
section
variable {P : Program} {w : World} {K : PySem.W.Frag} {mg : Str → Option Value} {base : Heap} {C : Addr}
abbrev sTreeOn : Stmt := top 53
abbrev nTreeOn : List Str := ["_law_purse_here", "_law_field", "_law_some", "_law_cut", "_law_found", "_law_turn"]
theorem scTreeOn : FnScope nTreeOn ["_law_purse_here", "_law_field"] (defScope sTreeOn) := ⟨rfl, rfl, rfl, by decide +kernel, rfl, by decide +kernel, by decide +kernel⟩
/-- the tree of a name alone -/
theorem on_one {H : Hp} {p : Addr} {c n : Nat} {z : Str} {q0 : Int} {H1 : Hp} {Q : VK} (hp1 : Purse H1 p (c + 3)) (b1 : But p H H1) (hp : Purse H p c)
    (k : ∀ (v : V) (T : PT) (H' : Hp), TrS (fun a => H a = none) H' (n + 1) v T → (∀ y, y ∈ lvs T ↔ y ∈ [z]) → (lvs T).length + 1 ≤ 2 * [z].length → Purse H' p (c + 10 * ([z].length * [z].length)) → But p H H' → Q v H') :
    Q (.str z) H1 ∧ ∀ D, H1 D = none → Q (.ref D) (upd H1 D (.lst [.str z])) := by
  refine ⟨k _ (.leaf z) H1 TrS.leaf (fun y => by simp [lvs]) (by simp [lvs]) (hp1.mono (by simp)) b1, fun D nD => ?_⟩
  have s := sn nD (o := .lst [.str z])
  refine k _ (.node [.leaf z]) _ (.inr ⟨D, [.str z], [.leaf z], rfl, new_back b1 hp1 nD, upd_same, by simp, by simp, rfl, fun i x t hx ht => ?_, rfl⟩) (fun y => by simp [lvs, lvsL]) (by simp [lvs, lvsL]) ((hp1.same s).mono (by simp)) (b1.trans (But.same s))
  cases i with
  | zero =>
    obtain rfl := Option.some.inj hx
    obtain rfl := Option.some.inj ht
    exact TrS.leaf
  | succ i => simp at hx
theorem ok_treeOn {f : Addr} {fd : FuncData} (F : FnP K "_law_tree_on" sTreeOn f fd) (g : mg "_law_tree_on" = some (.ref f)) (L : Lib K mg) (D__law_draw : Df P w K mg base 2 "_law_draw" sDraw ["_law_purse_here", "_law_many"] spDraw) (D__law_shuffled : Df P w K mg base 3 "_law_shuffled" sShuf ["_law_purse_here", "_law_some"] (spShuf K)) (D__law_one_of : Df P w K mg base 3 "_law_one_of" sOne ["_law_purse_here", "_law_some"] (spOneW K)) : ∀ n : Nat, FnOk P w K mg base CX0 (n + 4) f fd ["_law_purse_here", "_law_field"] (spOn n)
  | 0 => by
    refine okN F scTreeOn (fun vs H Q E h => ?_) (fun cdv A outer s H vs Q E hr h => ?_)
    · obtain ⟨_, _, _, _, rfl, _⟩ := h
      rfl
    · obtain ⟨p, fA, c, fs, rfl, hp, hc, hf, f1, fn, n20, k⟩ := h
      have r2 : Room 2 (A.deeper (envOfC "_law_tree_on" (defScope sTreeOn) s.heap.objs.size f cdv)) := hr.mono (by omega)
      refine ⟨_, pss_cons (ps_if (pt_cmpR op_eq (pe_callB call_len_seq (by rfl) L.len PySem.boot_len (pa_cons (pv 1) pa_nil)) pe_int (nomark _)) (pss_one (ps_ret (pe_ifExp (pt_cmpR op_eq (pe_df D__law_draw r2 (by rfl) (pa_cons (pv 0) (pa_cons pe_int pa_nil))) pe_int (nomark _)) (pe_ix ix_list (pv 1) pe_int (fun _ _ => rfl)) (pe_lst (pa_cons (pe_ix ix_list (pv 1) pe_int (fun _ _ => rfl)) pa_nil))))) pss_nil) (pss_cons ps_never (pss_cons ps_never (pss_cons ps_never (pss_one ps_never)))), ?_⟩
      obtain ⟨z, rfl⟩ : ∃ z, fs = [z] := by
        match fs, f1, fn with
        | [z], _, _ => exact ⟨z, rfl⟩
      have np : fA ≠ p := ne_purse hf str_no_int hp
      refine ⟨_, rfl, fA, _, rfl, .inl (SqL.of hf), rfl, _, rfl, ?_⟩
      rw [decide_eq_true (show (V.int (([z].map V.str).length : Int)) = V.int 1 from rfl)]
      refine iteT ?_
      refine ⟨_, rfl, p, 2, c, rfl, by decide, by decide, hp, by omega, fun q H1 q0 q1 hp1 b1 => ⟨rfl, _, rfl, ?_⟩⟩
      have hf1 := b1 _ _ np hf
      obtain ⟨k1, k2⟩ := on_one (n := 0) (q0 := q) hp1 b1 hp k
      exact ite2 (fun _ => ⟨_, rfl, fA, _, _, .str z, rfl, rfl, SqL.of hf1, atI_nat (j := 0) rfl, k1⟩) fun _ => ⟨_, rfl, fA, _, _, .str z, rfl, rfl, SqL.of hf1, atI_nat (j := 0) rfl, (show 1 ≤ sizeLine by decide), fun D nD => k2 D nD⟩
  | n + 1 => by
    have D : Df P w K mg base (n + 4) "_law_tree_on" sTreeOn ["_law_purse_here", "_law_field"] (spOn n) := ⟨⟨f, fd, F, g, ok_treeOn F g L D__law_draw D__law_shuffled D__law_one_of n, F.bindsN fun _ _ _ _ _ _ us hl => match us, hl with | [_, _], _ => rfl⟩⟩
    refine okN F scTreeOn (fun vs H Q E h => ?_) (fun cdv A outer s H vs Q E hr h => ?_)
    · obtain ⟨_, _, _, _, rfl, _⟩ := h
      rfl
    · obtain ⟨p, fA, c, fs, rfl, hp, hc, hf, f1, fn, n20, k⟩ := h
      have nd := scTreeOn.nd
      have r2 : Room 2 (A.deeper (envOfC "_law_tree_on" (defScope sTreeOn) s.heap.objs.size f cdv)) := hr.mono (by omega)
      have r3 : Room 3 (A.deeper (envOfC "_law_tree_on" (defScope sTreeOn) s.heap.objs.size f cdv)) := hr.mono (by omega)
      refine' ⟨_, pss_cons (ps_if (pt_cmpR op_eq (pe_callB call_len_seq (by rfl) L.len PySem.boot_len (pa_cons (pv 1) pa_nil)) pe_int (nomark _)) (pss_one ?b0) pss_nil) (pss_cons ?b1 (pss_cons ?b2 (pss_cons ?b3 (pss_one ?b4)))), ?_⟩
      case b0 => exact (ps_ret (pe_ifExp (pt_cmpR op_eq (pe_df D__law_draw r2 (by rfl) (pa_cons (pv 0) (pa_cons pe_int pa_nil))) pe_int (nomark _)) (pe_ix ix_list (pv 1) pe_int (fun _ _ => rfl)) (pe_lst (pa_cons (pe_ix ix_list (pv 1) pe_int (fun _ _ => rfl)) pa_nil))))
      case b1 => exact (ps_set (i := 2) nd rfl (Or.inl rfl) (pe_df D__law_shuffled r3 (by rfl) (pa_cons (pv 0) (pa_cons (pv 1) pa_nil))))
      case b2 => exact (ps_set (i := 3) nd rfl (Or.inl rfl) (pe_ifExp (pt_cmpR op_lt (pe_callB call_len_seq (by rfl) L.len PySem.boot_len (pa_cons (pv 2) pa_nil)) pe_int (nomark _)) (pe_op op_add pe_int (pe_df D__law_draw r2 (by rfl) (pa_cons (pv 0) (pa_cons (pe_op op_sub (pe_callB call_len_seq (by rfl) L.len PySem.boot_len (pa_cons (pv 2) pa_nil)) pe_int) pa_nil)))) (pe_op op_fdiv (pe_callB call_len_seq (by rfl) L.len PySem.boot_len (pa_cons (pv 2) pa_nil)) pe_int)))
      case b3 => exact (ps_set (i := 4) nd rfl (Or.inl rfl) (pe_lst (pa_cons (pe_df D hr (by rfl) (pa_cons (pv 0) (pa_cons (pe_slice sl_list (pv 2) po_none (po_some (pv 3))) pa_nil))) (pa_cons (pe_df D hr (by rfl) (pa_cons (pv 0) (pa_cons (pe_slice sl_list (pv 2) (po_some (pv 3)) po_none) pa_nil))) pa_nil))))
      case b4 => exact (ps_ret (pe_op op_cat (pv 4) (pe_lc (own := [("_law_turn", 5)]) (g := gName 5) (tt := tYes) (te := (tCall (spOneW K) [] E0 (tCons (tVar 0) (tCons (tVar 1) tNil)))) (by rfl) nd (pi_range1 (by rfl) L.range (pa_cons (pe_df D__law_draw r2 (by rfl) (pa_cons (pv 0) (pa_cons pe_int pa_nil))) pa_nil))
        (blkOk_by (N := nTreeOn) (sc := (defScope sTreeOn)) (by decide +kernel)) (fun _ _ _ _ _ => (pg_name (i := 5) scTreeOn.nd rfl (Or.inl rfl))) (fun _ _ _ _ _ => pts_nil) (fun _ _ _ _ _ => (pe_df D__law_one_of r3 (by rfl) (pa_cons (pv 0) (pa_cons (pv 1) pa_nil)))))))
      have np : fA ≠ p := ne_purse hf str_no_int hp
      refine ⟨_, rfl, fA, _, rfl, .inl (SqL.of hf), rfl, _, rfl, ?_⟩
      rw [List.length_map]
      by_cases e1 : fs.length = 1
      · obtain ⟨z, rfl⟩ : ∃ z, fs = [z] := by
          match fs, e1 with
          | [z], _ => exact ⟨z, rfl⟩
        rw [decide_eq_true (show (V.int ([z].length : Int)) = V.int 1 from rfl)]
        refine iteT ?_
        refine ⟨_, rfl, p, 2, c, rfl, by decide, by decide, hp, by omega, fun q H1 q0 q1 hp1 b1 => ⟨rfl, _, rfl, ?_⟩⟩
        have hf1 := b1 _ _ np hf
        obtain ⟨k1, k2⟩ := on_one (n := n + 1) (q0 := q) hp1 b1 hp k
        exact ite2 (fun _ => ⟨_, rfl, fA, _, _, .str z, rfl, rfl, SqL.of hf1, atI_nat (j := 0) rfl, k1⟩) fun _ => ⟨_, rfl, fA, _, _, .str z, rfl, rfl, SqL.of hf1, atI_nat (j := 0) rfl, (show 1 ≤ sizeLine by decide), fun D nD => k2 D nD⟩
      · rw [decide_eq_false (show ¬ (V.int (fs.length : Int)) = V.int 1 from fun q => e1 (by injection q with q; omega))]
        refine iteF ?_
        refine ⟨_, rfl, _, rfl, p, fA, fs.map V.str, c, rfl, hp, by omega, SqL.of hf, np, by rw [List.length_map]; omega, fun SA vs H1 pm hS nS hp1 b1 => ?_⟩
        obtain ⟨ys, rfl, py⟩ := perm_strs pm
        rw [List.length_map] at hp1
        have ly := py.length_eq
        have hf1 := b1 _ _ np hf
        have nSp : SA ≠ p := ne_purse hS str_no_int hp1
        refine ⟨_, rfl, SA, _, rfl, .inl (SqL.of hS), _, _, rfl, rfl, _, rfl, ?_⟩
        rw [List.length_map]
        refine ite2 (fun q7 => ?ca) (fun q7 => ?cb)
        case' ca =>
          refine ⟨_, rfl, _, rfl, SA, _, rfl, .inl (SqL.of hS), _, _, rfl, rfl, ?_⟩
          rw [List.length_map]
          refine ⟨p, ((ys.length : Int) - 1), _, rfl, by omega, by omega, hp1, by omega, fun q H2 q0 q1 hp2 b2 => ⟨_, _, rfl, rfl, ?_⟩⟩
          obtain ⟨m, hm⟩ : ∃ m : Nat, (1 : Int) + q = (m : Int) := ⟨((1 : Int) + q).toNat, by omega⟩
          have m1 : 1 ≤ m := by omega
          have m2 : m < ys.length := by omega
          show gName 3 (V.int ((1 : Int) + q)) _ _ _
          rw [hm]
        case' cb =>
          refine ⟨_, rfl, SA, _, rfl, .inl (SqL.of hS), _, _, rfl, rfl, ?_⟩
          rw [List.length_map]
          obtain ⟨m, hm⟩ : ∃ m : Nat, (ys.length : Int) / 2 = (m : Int) := ⟨ys.length / 2, by omega⟩
          have m1 : 1 ≤ m := by omega
          have m2 : m < ys.length := by omega
          obtain ⟨H2, e2⟩ : ∃ H2, H2 = H1 := ⟨_, rfl⟩
          have b2 : But p H1 H2 := by rw [e2]; exact But.refl _ _
          have hp2 : Purse H2 p (c + 3 * fs.length + 3) := by rw [e2]; exact hp1.mono (by omega)
          rw [← e2]
          refine ⟨(show (0 : Int) < 2 ∧ (2 : Int) < 1073741824 by decide), ?_⟩
          show gName 3 (V.int ((ys.length : Int) / 2)) _ _ _
          rw [hm]
        all_goals
          have b02 := b1.trans b2
          have hS2 := b2 _ _ nSp hS
          have hf2 := b02 _ _ np hf
          refine ⟨_, rfl, _, rfl, _, rfl, _, rfl, SA, _, rfl, SqL.of hS2, fun X1 nX1 => ?_⟩
          rw [cut_any (m := m), ← List.map_take]
          have sX := sn nX1 (o := .lst ((ys.take m).map V.str))
          have hX := upd_same (H := H2) (a := X1) (o := .lst ((ys.take m).map V.str))
          generalize upd H2 X1 (.lst ((ys.take m).map V.str)) = H3 at sX hX ⊢
          have hp3 := hp2.same sX
          have b03 := b02.trans (But.same sX)
          have lt1 : (ys.take m).length = m := by rw [List.length_take]; omega
          have lt2 : (ys.drop m).length = ys.length - m := List.length_drop
          have cst := cost_on (a := m) (b := ys.length - m) m1 (by omega)
          have mb : m + (ys.length - m) = fs.length := by omega
          rw [mb] at cst
          have le21 : fs.length * fs.length ≤ 22 * 22 := Nat.mul_le_mul (by omega) (by omega)
          refine ⟨p, X1, _, ys.take m, rfl, hp3, by rw [lt1]; omega, hX, by omega, by omega, by omega, fun v1 T1 H4 t1 mem1 c1 hp4 b4 => ?_⟩
          have b34 := hp3
          have b04 := b03.trans b4
          have hS4 := b4 _ _ nSp (sX _ _ hS2)
          refine ⟨_, rfl, _, rfl, _, rfl, _, rfl, SA, _, rfl, SqL.of hS4, fun X2 nX2 => ?_⟩
          rw [cut_from (n := m) (by rw [List.length_map]; omega), ← List.map_drop]
          have sY := sn nX2 (o := .lst ((ys.drop m).map V.str))
          have hY := upd_same (H := H4) (a := X2) (o := .lst ((ys.drop m).map V.str))
          generalize upd H4 X2 (.lst ((ys.drop m).map V.str)) = H5 at sY hY ⊢
          have hp5 := hp4.same sY
          have b05 := b04.trans (But.same sY)
          rw [lt1] at hp5 c1
          refine ⟨p, X2, _, ys.drop m, rfl, hp5, by rw [lt2]; omega, hY, by omega, by omega, by omega, fun v2 T2 H6 t2 mem2 c2 hp6 b6 => ?_⟩
          have b06 := b05.trans b6
          rw [lt2] at hp6 c2
          refine ⟨(show 2 ≤ sizeLine by decide), fun L4 nL4 => ?_⟩
          have sL := sn nL4 (o := .lst [v1, v2])
          have hL := upd_same (H := H6) (a := L4) (o := .lst [v1, v2])
          generalize upd H6 L4 (.lst [v1, v2]) = H7 at sL hL ⊢
          have hp7 := hp6.same sL
          have b07 := b06.trans (But.same sL)
          have nLp : L4 ≠ p := no_purse hp6 nL4
          have hf7 := (b2.trans ((But.same sX).trans (b4.trans ((But.same sY).trans (b6.trans (But.same sL)))))) _ _ np hf1
          -- the two trees, where the found list stands
          have k1 : TrS (fun a => H a = none ∧ a ≠ L4) H7 (n + 1) v1 T1 := by
            have q1 := t1.keep (Pd' := fun a => H a = none) (H' := H6) (fun a h _ => new_back b03 hp3 h) fun a o h e => b6 _ _ (no_purse hp3 h) (sY _ _ e)
            exact q1.keep (fun a h e => ⟨h, fun q => e (q ▸ nL4)⟩) fun a o _ e => sL _ _ e
          have k2 : TrS (fun a => H a = none ∧ a ≠ L4) H7 (n + 1) v2 T2 := t2.keep (fun a h e => ⟨new_back b05 hp5 h, fun q => e (q ▸ nL4)⟩) fun a o _ e => sL _ _ e
          refine ⟨_, rfl, _, rfl, p, 2, _, rfl, by decide, by decide, hp7, by omega, fun q8 H8 q80 q81 hp8 b8 => ?_⟩
          obtain ⟨N, rfl⟩ := Int.eq_ofNat_of_zero_le q80
          have N1 : N ≤ 1 := by omega
          have b08 := b07.trans b8
          have hf8 := b8 _ _ np hf7
          have hL8 := b8 _ _ nLp hL
          refine ⟨(N : Int), rfl, by omega, by omega, fun D' nD => lc_range (lo := 0) (n := N) (fun i H' => ∃ zs : List Str, H' D' = some (.lst (zs.map V.str)) ∧ zs.length = i ∧ (∀ z ∈ zs, z ∈ fs) ∧ Purse H' p (c + 3 * fs.length + 6 + 10 * (m * m) + 10 * ((ys.length - m) * (ys.length - m)) + 3 * i) ∧ But p H8 H')
            ⟨[], upd_same, rfl, (fun z hz => nomatch hz), (hp8.same (sn nD)).mono (by omega), But.same (sn nD)⟩ ?_ ?_⟩
          · rintro i H' hi ⟨zs, w1, w2, w3, w4, w5⟩
            have nDp : D' ≠ p := no_purse hp8 nD
            have e8 : But p H H' := b08.trans w5
            refine ⟨rfl, _, rfl, _, rfl, p, fA, fs.map V.str, _, rfl, w4, by omega, SqL.of (w5 _ _ np hf8), np, by rw [List.length_map]; omega, by rw [List.length_map]; omega, fun x H9 mx hp9 b9 => ?_⟩
            obtain ⟨z, mz, rfl⟩ := List.mem_map.mp mx
            refine ⟨zs.map V.str, b9 _ _ nDp w1, small1000 (by rw [List.length_map]; omega), zs ++ [z], by rw [upd_same, List.map_append]; rfl, by rw [List.length_append, w2]; rfl, fun y hy => ?_, ?_, fun b o nb hb => ?_⟩
            · rcases List.mem_append.mp hy with h | h
              · exact w3 y h
              · rw [List.mem_singleton.mp h]
                exact mz
            · obtain ⟨u, e, l⟩ := hp9.mono (show _ ≤ c + 3 * fs.length + 6 + 10 * (m * m) + 10 * ((ys.length - m) * (ys.length - m)) + 3 * (i + 1) by omega)
              exact ⟨u, by rw [upd_ne (Ne.symm nDp)]; exact e, l⟩
            · rw [upd_ne (fun e => by rw [e, nD] at hb; cases hb)]
              exact b9 _ _ nb (w5 _ _ nb hb)
          · rintro H9 ⟨zs, w1, w2, w3, w4, w5⟩
            have b09 := b08.trans w5
            have hL9 := w5 _ _ nLp hL8
            refine ⟨L4, D', _, _, rfl, rfl, hL9, w1, by rw [List.length_map, sizeLine_eq]; show 2 + zs.length ≤ _; omega, fun L5 nL5 => ?_⟩
            have s5 := sn nL5 (o := .lst ([v1, v2] ++ zs.map V.str))
            have b79 : But p H7 H9 := b8.trans w5
            have stay : ∀ {d : Nat} {v : V} {T : PT}, TrS (fun a => H a = none ∧ a ≠ L4) H7 d v T → TrS (fun a => H a = none) (upd H9 L5 (.lst ([v1, v2] ++ zs.map V.str))) d v T := fun h => h.keep (fun a h _ => h.1) fun a o h e => s5 _ _ (b79 _ _ (no_purse hp h.1) e)
            refine k (.ref L5) (.node (T1 :: T2 :: zs.map PT.leaf)) _ (.inr ⟨L5, [v1, v2] ++ zs.map V.str, T1 :: T2 :: zs.map PT.leaf, rfl, new_back b09 w4 nL5, upd_same, by simp, by simp; omega, by simp, fun j x t hx ht => ?_, rfl⟩) (fun z => ?_) ?_ ((w4.same s5).mono (by omega)) (b09.trans (But.same s5))
            · match j, hx, ht with
              | 0, hx, ht =>
                obtain rfl := Option.some.inj hx
                obtain rfl := Option.some.inj ht
                exact stay k1
              | 1, hx, ht =>
                obtain rfl := Option.some.inj hx
                obtain rfl := Option.some.inj ht
                exact stay k2
              | j + 2, hx, ht =>
                have hx' : (zs.map V.str)[j]? = some x := by simpa using hx
                have ht' : (zs.map PT.leaf)[j]? = some t := by simpa using ht
                rw [List.getElem?_map] at hx' ht'
                obtain ⟨z, hz, rfl⟩ := Option.map_eq_some_iff.mp hx'
                rw [hz] at ht'
                obtain rfl := Option.some.inj ht'
                exact TrS.leaf
            · have ez := lvsL_leaf zs
              rw [lvs, lvsL, lvsL, ez, List.mem_append, List.mem_append, mem1 z, mem2 z]
              constructor
              · rintro (h | h | h)
                · exact py.mem_iff.mp (List.mem_of_mem_take h)
                · exact py.mem_iff.mp (List.mem_of_mem_drop h)
                · exact w3 z h
              · intro h
                have q := py.mem_iff.mpr h
                rw [← List.take_append_drop m ys] at q
                rcases List.mem_append.mp q with q | q
                · exact .inl q
                · exact .inr (.inl q)
            · have ez := lvsL_leaf zs
              rw [lvs, lvsL, lvsL, List.length_append, List.length_append, ez]
              omega
end
end K24

set_option maxHeartbeats 4000000
/-! repr of an int. -/
namespace G1
open PySem PySem.Spec PyProof.Rows L2
theorem int_hd {i : Int} : (PyData.int i).hasDict = false ∨ PyData.int i = .dict [] := .inl (by simp [PyData.hasDict])
theorem int_dp {i : Int} : (PyData.int i).depth ≤ 60 := by simp [PyData.depth]
theorem nat_log {n : Nat} (h : n < 2 ^ 200) : ((n : Int).natAbs).log2 < 1920 := by
  rw [Int.natAbs_natCast]
  by_cases h0 : n = 0
  · subst h0
    decide
  · exact Nat.lt_of_lt_of_le ((Nat.log2_lt h0).mpr h) (by decide)
theorem nat_sh {n : Nat} (h : n < 2 ^ 200) : (PyData.int (n : Int)).showable = true := by
  have := nat_log h
  simp only [PyData.showable]
  exact decide_eq_true this
theorem nat_le {n : Nat} (h : n < 2 ^ 200) : (PyData.int (n : Int)).shown.length ≤ sizeLine := by
  have e : (PyData.int (n : Int)).shown = Str.ofString (toString (n : Int)) := by simp only [PyData.shown]
  rw [e]
  exact int_text_fits (nat_log h)
theorem nat_200 {n m : Nat} (h : n ≤ m) (g : m ≤ 1000000) : n < 2 ^ 200 := Nat.lt_of_le_of_lt (Nat.le_trans h g) (by decide)
theorem bl_hd {b : Bool} : (PyData.bool b).hasDict = false ∨ PyData.bool b = .dict [] := .inl (by simp [PyData.hasDict])
theorem bl_dp {b : Bool} : (PyData.bool b).depth ≤ 60 := by simp [PyData.depth]
theorem bl_sh {b : Bool} : (PyData.bool b).showable = true := by simp [PyData.showable]
theorem bl_le {b : Bool} : (PyData.bool b).shown.length ≤ sizeLine := by cases b <;> decide +kernel
end G1

set_option maxHeartbeats 16000000
namespace K24
open PySem PySem.Spec PyProof.Rows L2 G1
theorem FineN.le2 {d : PyData} {n w : Nat} (h : FineN d n w) (hn : n ≤ 60) (hw : w ≤ 1000000) : d.shown.length ≤ sizeLine := by
  have l : PyData.layable0 d = true := by
    unfold PyData.layable0
    rw [Bool.and_eq_true, Bool.and_eq_true]
    exact ⟨⟨h.a, decide_eq_true (Nat.le_trans (Nat.le_trans h.b hn) (by decide))⟩, decide_eq_true (Nat.le_trans (Nat.le_trans h.c hw) (by decide))⟩
  exact Nat.le_trans (shown_le13 l h.e) (by decide)
theorem FineN.shaped2 {d : PyData} {n w : Nat} (h : FineN d n w) (hn : n ≤ 64) : SeqAt.shaped d = true := by
  unfold SeqAt.shaped
  rw [Bool.and_eq_true]
  exact ⟨h.a, decide_eq_true (Nat.le_trans h.b hn)⟩
theorem FineAll.tup {ds : List PyData} {n w : Nat} (h : FineAll ds n w) : FineN (.tuple ds) (n + 1) w := by
  obtain ⟨a1, a2, a3, a4, a5, a6⟩ := h
  constructor <;> simp only [PyData.canLay0, PyData.depth, PyData.weight, PyData.intsShort, PyData.showable, PyData.hasDict, a1, a4, a5, a6] <;> omega
theorem fine_row40 {r : List Str} (h : ∀ z ∈ r, Nm z) (l : r.length ≤ 40) : FineN (rd r) 1 360 := (fine_strs h).list.mono (Nat.le_refl _) (by omega)
theorem tab_fine {g : List Str → List Str} : ∀ {L : List (List Str)}, (∀ fs ∈ L, ((∀ z ∈ fs, Nm z) ∧ fs.length ≤ 40) ∧ (∀ z ∈ g fs, Nm z) ∧ (g fs).length ≤ 40) → FineAll (L.map fun fs => PyData.tuple [rd fs, rd (g fs)]) 2 (723 * L.length)
  | [], _ => .nil 2 0
  | fs :: L, h => by
    have e := tab_fine fun r hr => h r (List.mem_cons_of_mem _ hr)
    obtain ⟨⟨h1, h2⟩, h3, h4⟩ := h fs List.mem_cons_self
    have p : FineN (PyData.tuple [rd fs, rd (g fs)]) 2 722 := FineAll.tup (.cons (fine_row40 h1 h2) (.cons (fine_row40 h3 h4) (.nil 1 0)))
    have q := FineAll.cons p e
    rw [show 723 * (fs :: L).length = 722 + 1 + 723 * L.length by rw [List.length_cons, Nat.mul_succ]; omega]
    exact q
mutual
theorem told_sub {xs : List Str} {rs : List (List Str)} : ∀ (T : PT), ∀ fs ∈ told xs rs T, fs.Sublist xs
  | .leaf _, fs, h => by simp [told] at h
  | .node ts, fs, h => by
    rw [told] at h
    rcases List.mem_append.mp h with h | h
    · exact toldL_sub ts fs h
    · rw [List.mem_singleton.mp h]
      exact List.filter_sublist
theorem toldL_sub {xs : List Str} {rs : List (List Str)} : ∀ (ts : List PT), ∀ fs ∈ toldL xs rs ts, fs.Sublist xs
  | [], fs, h => by simp [toldL] at h
  | t :: ts, fs, h => by
    rw [toldL] at h
    rcases List.mem_append.mp h with h | h
    · exact told_sub t fs h
    · exact toldL_sub ts fs h
end
theorem told_fine {xs : List Str} {rs : List (List Str)} (gd : GoodW xs rs) (T : PT) : FineN (tabD (cardsL xs rs) (told xs rs T)) 3 (723 * (told xs rs T).length) := by
  refine (tab_fine fun fs hfs => ?_).list
  have s := told_sub T fs hfs
  have l40 := gd.l40
  exact ⟨⟨fun z hz => gd.nm z (s.subset hz), Nat.le_trans s.length_le l40⟩, fun z hz => gd.nm z (List.mem_filter.mp hz).1, Nat.le_trans (List.length_filter_le _ _) l40⟩
/-- a pair of lists that may be changed: new since H0, and no list of e -/
def Mut (H0 H : Hp) (e : Addr) (n : Nat) (t : Addr) : Prop := ∃ (a b : Addr) (ws us : List V), H t = some (.tup [.ref a, .ref b]) ∧ H0 a = none ∧ H0 b = none ∧ a ≠ e ∧ b ≠ e ∧ H a = some (.lst ws) ∧ ws.length ≤ n ∧ H b = some (.lst us) ∧ us.length ≤ n
theorem Mut.app {H0 H : Hp} {e t x : Addr} {n : Nat} {ks : List V} {y : V} (m : Mut H0 H e n t) (hx : H x = some (.lst ks)) (lk : ks.length ≤ n) : Mut H0 (upd H x (.lst (ks ++ [y]))) e (n + 1) t := by
  obtain ⟨a, b, ws, us, h1, h2, h3, h4, h5, h6, h7, h8, h9⟩ := m
  have nt : t ≠ x := fun q => by rw [q, hx] at h1; cases h1
  have key : ∀ (c : Addr) (zs : List V), H c = some (.lst zs) → zs.length ≤ n → ∃ zs' : List V, upd H x (.lst (ks ++ [y])) c = some (.lst zs') ∧ zs'.length ≤ n + 1 := fun c zs hc lz => by
    by_cases q : c = x
    · subst q
      exact ⟨_, upd_same, by rw [List.length_append]; simp; omega⟩
    · exact ⟨zs, by rw [upd_ne q]; exact hc, by omega⟩
  obtain ⟨ws', k1, k2⟩ := key a ws h6 h7
  obtain ⟨us', k3, k4⟩ := key b us h8 h9
  exact ⟨a, b, ws', us', by rw [upd_ne nt]; exact h1, h2, h3, h4, h5, k1, k2, k3, k4⟩
def spTrR (C : Addr) : Sp := fun vs H Q _ => ∃ (a R : Addr) (v : V) (xs : List Str) (as : List Addr) (rs : List (List Str)) (T : PT), vs = [.ref a, .ref R, v] ∧ PanF H C a xs rs ∧ LR H R xs as rs ∧ TrG H 20 v xs T ∧ ∀ H', Same H H' → Q (.bl true) H'
section
variable {P : Program} {w : World} {K : PySem.W.Frag} {mg : Str → Option Value} {base : Heap} {C : Addr}
abbrev sTrR : Stmt := top 59
abbrev nTrR : List Str := ["_law_panel_here", "_law_rows", "_law_tree", "_law_told", "_law_kept", "_law_due", "_law_field", "_law_heard", "_law_every", "_law_one", "_law_again"]
theorem scTrR : FnScope nTrR ["_law_panel_here", "_law_rows", "_law_tree"] (defScope sTrR) := ⟨rfl, rfl, rfl, by decide +kernel, rfl, by decide +kernel, by decide +kernel⟩
theorem ok_trR {f : Addr} {fd : FuncData} (F : FnP K "_law_tree_right" sTrR f fd) (L : Lib K mg) (LP : LibP mg) (RPR : mg "repr" = none) (D__law_cards : Df P w K mg base 1 "_law_cards" sLC ["_law_rows", "_law_field"] (spLC K)) (D__law_tree_copied : Df P w K mg base 21 "_law_tree_copied" sTCop ["_law_tree"] (spCop 20)) (D__law_goes_on : Df P w K mg base 22 "_law_goes_on" sGoesOn ["_law_rows", "_law_tree", "_law_told"] (spGo K 20)) (D__law_field_in : Df P w K mg base 21 "_law_field_in" sFldIn ["_law_tree"] (spFldIn 20)) (D_heats : Df P w K mg base 26 "heats" sHeats ["panel", "tree"] (spHeats C 20)) (D_each_heat : Df P w K mg base 24 "each_heat" sEach ["panel", "tree"] (spEach C 20)) (D_field_of : Df P w K mg base 23 "field_of" sFieldOf ["panel", "tree"] (spFieldOf C 20)) (D_widest : Df P w K mg base 25 "widest" sWidest ["panel", "tree"] (spWid C 20)) :
    FnG P w K mg base 27 f fd ["_law_panel_here", "_law_rows", "_law_tree"] (spTrR C) := by
  refine gdN F scTrR (fun vs H Q E h => ?_) (fun cdv A outer s H vs Q Ex hg hr h => ?_)
  · obtain ⟨_, _, _, _, _, _, _, rfl, _⟩ := h
    rfl
  · obtain ⟨a, R, v, xs, as, rs, T, rfl, pa, lr, tr, k⟩ := h
    have nd := scTrR.nd
    have hu := hr.un
    have hu1 : (A.deeper (envOfC "_law_tree_right" (defScope sTrR) s.heap.objs.size f cdv)).units + (0 + 1) < cLine := by omega
    have hu64 : (A.deeper (envOfC "_law_tree_right" (defScope sTrR) s.heap.objs.size f cdv)).units + 64 < cLine := by omega
    have r1 : Room 1 (A.deeper (envOfC "_law_tree_right" (defScope sTrR) s.heap.objs.size f cdv)) := hr.mono (by decide)
    have r21 : Room 21 (A.deeper (envOfC "_law_tree_right" (defScope sTrR) s.heap.objs.size f cdv)) := hr.mono (by decide)
    have r22 : Room 22 (A.deeper (envOfC "_law_tree_right" (defScope sTrR) s.heap.objs.size f cdv)) := hr.mono (by decide)
    have r23 : Room 23 (A.deeper (envOfC "_law_tree_right" (defScope sTrR) s.heap.objs.size f cdv)) := hr.mono (by decide)
    have r24 : Room 24 (A.deeper (envOfC "_law_tree_right" (defScope sTrR) s.heap.objs.size f cdv)) := hr.mono (by decide)
    have r25 : Room 25 (A.deeper (envOfC "_law_tree_right" (defScope sTrR) s.heap.objs.size f cdv)) := hr.mono (by decide)
    refine' ⟨_, pss_cons ?b0 (pss_cons ?b1 (pss_cons ?b2 (pss_cons ?b3 (pss_cons ?b4 (pss_cons ?b5 (pss_cons (ps_for PassesOwn.never rfl (pi_list (pv 8)) (pg_name (i := 9) nd rfl (Or.inl rfl)) (pss_cons ?b6 (pss_one ?b7))) (pss_cons ?b8 (pss_cons ?b9 (pss_cons ?b10 (pss_one ?b11)))))))))), ?_⟩
    case b0 => exact (ps_par (i := 3) (j := 4) (by rfl) nd rfl rfl (by decide) rfl rfl (pa_cons (pe_lst pa_nil) (pa_cons (pe_df D__law_tree_copied r21 (by rfl) (pa_cons (pv 2) pa_nil)) pa_nil)) (by rfl))
    case b1 => exact (ps_par (i := 5) (j := 6) (by rfl) nd rfl rfl (by decide) rfl rfl (pa_cons (pe_df D__law_goes_on r22 (by rfl) (pa_cons (pv 1) (pa_cons (pv 2) (pa_cons (pv 3) pa_nil)))) (pa_cons (pe_df D__law_field_in r21 (by rfl) (pa_cons (pv 2) pa_nil)) pa_nil)) (by rfl))
    case b2 => exact (ps_par (i := 7) (j := 8) (by rfl) nd rfl rfl (by decide) rfl rfl (pa_cons (pe_df D_heats hr (by rfl) (pa_cons (pv 0) (pa_cons (pv 2) pa_nil))) (pa_cons (pe_df D_each_heat r24 (by rfl) (pa_cons (pv 0) (pa_cons (pv 2) pa_nil))) pa_nil)) (by rfl))
    case b3 => exact (ps_if (PW.pt (pw_or (pt_cmpR (op_neW (n := 0) hu1) (pv 7) (pv 5) (by rfl)) (pw_or (pt_cmpR (op_neW (n := 0) hu1) (pv 5) (pe_df D__law_cards r1 (by rfl) (pa_cons (pv 1) (pa_cons (pv 6) pa_nil))) (by rfl)) (pw_or (pt_cmpR (op_neW (n := 0) hu1) (pe_df D_field_of r23 (by rfl) (pa_cons (pv 0) (pa_cons (pv 2) pa_nil))) (pv 6) (by rfl)) (pw_or1 (pt_cmpR op_ne (pe_callB (call_repr hg hu64) (by rfl) RPR (by decide +kernel) (pa_cons (pv 8) pa_nil)) (pe_callB (call_repr hg hu64) (by rfl) RPR (by decide +kernel) (pa_cons (pv 3) pa_nil)) (nomark _))))))) (pss_one ps_never) pss_nil)
    case b4 => exact (ps_if (PW.pt (pw_or (pt_cmpR op_ne (pe_callB (call_repr hg hu64) (by rfl) RPR (by decide +kernel) (pa_cons (pe_df D_widest r25 (by rfl) (pa_cons (pv 0) (pa_cons (pv 2) pa_nil))) pa_nil)) (pe_callB (call_repr hg hu64) (by rfl) RPR (by decide +kernel) (pa_cons (pe_callB (cr_max rfl) (by rfl) L.max (by decide +kernel) (pa_cons (pe_op op_cat (pe_lst (pa_cons pe_int pa_nil)) (pe_lc (own := [("_law_one", 9)]) (g := gName 9) (tt := tYes) (te := (tCB (rLenQ K) (tCons (tOp (rIxT K) (tVar 9) (tC (.int 0))) tNil))) (by rfl) nd (pi_list (pv 3))
        (blkOk_by (N := nTrR) (sc := (defScope sTrR)) (by decide +kernel)) (fun _ _ _ _ _ => (pg_name (i := 9) scTrR.nd rfl (Or.inl rfl))) (fun _ _ _ _ _ => pts_nil) (fun _ _ _ _ _ => (pe_callB call_len_seq (by rfl) L.len PySem.boot_len (pa_cons (pe_ix ix_tup (pv 9) pe_int (fun _ _ => rfl)) pa_nil))))) pa_nil)) pa_nil)) (nomark _)) (pw_or1 (pt_cmpR (op_neD hu64) (pv 2) (pv 4) (nomark _))))) (pss_one ps_never) pss_nil)
    case b5 => exact (ps_expr (pe_bm PySem.F.plainAttrs_list PySem.F.slot_list_append PySem.F.type_list_append mt_append (pv 7) (pa_cons pe_str pa_nil)))
    case b6 => exact (ps_expr (pe_bm PySem.F.plainAttrs_list PySem.F.slot_list_append PySem.F.type_list_append mt_append (pe_ix ix_tup (pv 9) pe_int (fun _ _ => rfl)) (pa_cons pe_str pa_nil)))
    case b7 => exact (ps_expr (pe_bm PySem.F.plainAttrs_list PySem.F.slot_list_append PySem.F.type_list_append mt_append (pe_ix ix_tup (pv 9) pe_int (fun _ _ => rfl)) (pa_cons pe_str pa_nil)))
    case b8 => exact (ps_expr (pe_bm PySem.F.plainAttrs_list PySem.F.slot_list_append PySem.F.type_list_append mt_append (pv 8) (pa_cons pe_non pa_nil)))
    case b9 => exact (ps_expr (pe_bm PySem.F.plainAttrs_list PySem.F.slot_list_append PySem.F.type_list_append mt_append (pe_df D_field_of r23 (by rfl) (pa_cons (pv 0) (pa_cons (pv 2) pa_nil))) (pa_cons pe_str pa_nil)))
    case b10 => exact (ps_set (i := 10) nd rfl (Or.inl rfl) (pe_lst (pa_cons (pe_df D_heats hr (by rfl) (pa_cons (pv 0) (pa_cons (pv 2) pa_nil))) (pa_cons (pe_df D_each_heat r24 (by rfl) (pa_cons (pv 0) (pa_cons (pv 2) pa_nil))) (pa_cons (pe_df D_field_of r23 (by rfl) (pa_cons (pv 0) (pa_cons (pv 2) pa_nil))) pa_nil)))))
    case b11 => exact (ps_ret (pe_and (pe_cmpR (op_eqD hu64) (pv 10) (pe_lst (pa_cons (pv 5) (pa_cons (pv 3) (pa_cons (pv 6) pa_nil)))) (nomark _)) (pe_one (pe_cmpR (op_eqD hu64) (pv 2) (pv 4) (nomark _)))))
    have gd := lr.gd
    have ra : Rw xs rs := gd.rw
    have l60 := tr.l60
    have many := tr.tr.many (xs := xs) (rs := rs)
    have eg := tr.tr.gives ra tr.sub
    refine ⟨Nat.zero_le _, fun TL nTL => ?_⟩
    have s1 := sn nTL (o := .lst [])
    have hT1 := upd_same (H := H) (a := TL) (o := .lst [])
    generalize upd H TL (.lst []) = H1 at s1 hT1 ⊢
    refine ⟨_, rfl, v, T, rfl, (tr.same s1).tr, fun u H2 s2 tu => ⟨_, _, rfl, ?_⟩⟩
    have hT2 := s2 _ _ hT1
    have s02 : Same H (delH H2 TL) := same_del (s1.trans s2) nTL
    have tu2 : TrT (delH H2 TL) 20 u T := tu.keep (fun _ _ _ => trivial) fun b o h e => by
      rw [delH_at (fun q => by rw [q, hT1] at h; cases h)]
      exact e
    refine ⟨_, rfl, _, rfl, _, rfl, R, TL, v, as, rs, xs, T, [], rfl, s02 _ _ lr.at_, lr.ra.same s02, ra, TrS.same tr.tr s02, tr.sub, tr.l60, Nat.le_refl _, hT2, by simp; omega, fun E1 ts1 H3 hT3 s3 tb3 nE1 hE1 => ?_⟩
    rw [List.nil_append] at hT3
    have s03 : Same H H3 := (s02.trans s3).trans del_sub
    have tu3 : TrT H3 20 u T := (TrS.same tu2 s3).same del_sub
    refine ⟨_, rfl, v, lvs T, rfl, (tr.same s03).tr.trP.at_, l60, fun Fd ys H4 s4 nF hF so nd2 my _ => ⟨_, _, rfl, ?_⟩⟩
    have ey : ys = fldL xs (lvs T) := by
      refine sorted_ext so (sorted_filter ra.so) nd2 (ra.nd.sublist List.filter_sublist) fun z => ?_
      rw [my z, mem_fld tr.sub]
    subst ey
    have s04 := s03.trans s4
    have pa4 := pa.same s04
    have tr4 := tr.same s04
    have tu4 := tu3.same s4
    have hT4 := s4 _ _ hT3
    have hE4 := s4 _ _ hE1
    rw [eg] at hE4
    have tb4 : TabAt H4 (cardsL xs rs) ts1 (told xs rs T) := TabP.same tb3.any s4
    refine ⟨_, rfl, _, rfl, a, v, xs, lvs T, rs, rfl, pa4, ra, tr4.f, fun He H5 s5 nHe hHe => ?_⟩
    refine ⟨_, rfl, _, rfl, a, v, xs, rs, T, rfl, pa4.same s5, ra, tr4.same s5, fun Ev ts2 H6 s6 nEv hEv tb6 => ⟨_, _, rfl, ?_⟩⟩
    have s46 := s5.trans s6
    have tb6' : TabP (fun a => H4 a = none) H6 (cardsL xs rs) ts2 (told xs rs T) := tb6.keep (fun b h => s5.free h) fun _ _ _ e => e
    have nEv4 := s5.free nEv
    refine ⟨_, rfl, _, rfl, neW_strs (s6 _ _ hHe) (s46 _ _ hE4) ⟨_, rfl, ?_⟩⟩
    rw [decide_eq_true rfl]
    refine iteF ?_
    have rl : ∀ r ∈ rs, r.length ≤ 100 := lr.r100.1
    refine ⟨_, rfl, _, rfl, _, rfl, R, Fd, as, rs, _, rfl, (s04.trans s46) _ _ lr.at_, lr.ra.same (s04.trans s46), s46 _ _ hF, rl, lr.r100.2, fun ys2 Cd H7 s7 nCd hCd so2 nd3 mem2 _ => ?_⟩
    obtain rfl := lc_eq ra.pr ra.so ra.nd so2 nd3 mem2
    refine neW_strs ((s46.trans s7) _ _ hE4) hCd ⟨_, rfl, ?_⟩
    rw [decide_eq_true rfl]
    refine iteF ?_
    have s47 := s46.trans s7
    refine ⟨_, rfl, _, rfl, a, v, xs, lvs T, rs, rfl, pa4.same s47, ra, (tr4.same s47).f, fun D8 H8 s8 nD8 hD8 => ⟨_, rfl, neW_strs hD8 ((s47.trans s8) _ _ hF) ⟨_, rfl, ?_⟩⟩⟩
    rw [decide_eq_true rfl]
    refine iteF ?_
    have s48 := s47.trans s8
    have s68 := s7.trans s8
    have fine := told_fine gd T
    have fw : 723 * (told xs rs T).length ≤ 1000000 := by
      have : (told xs rs T).length ≤ 20 * 60 := Nat.le_trans many (Nat.mul_le_mul (Nat.le_refl _) l60)
      omega
    have tb8 : TabAt H8 (cardsL xs rs) ts2 (told xs rs T) := TabP.same tb6.any s68
    refine ⟨_, rfl, .ref Ev, _, rfl, .dp (TabP.dp (K := K) (s68 _ _ hEv) tb8), .inl fine.g, fine.f, Nat.le_trans fine.b (by decide), fine.le2 (by decide) fw, _, rfl, .ref TL, _, rfl, .dp (TabP.dp (K := K) (s48 _ _ hT4) (TabP.same tb4 s48)), .inl fine.g, fine.f, Nat.le_trans fine.b (by decide), fine.le2 (by decide) fw, ?_⟩
    refine ⟨rfl, _, rfl, ?_⟩
    rw [decide_eq_true rfl]
    refine iteF ?_
    refine ⟨_, rfl, _, rfl, a, v, xs, rs, T, rfl, pa4.same s48, ra, tr4.same s48, fun m H9 s9 mx => ?_⟩
    have s49 := s48.trans s9
    obtain ⟨mn, rfl⟩ : ∃ n : Nat, m = (n : Int) := Int.eq_ofNat_of_zero_le (mx.2 0 (.head _))
    have m200 : mn < 2 ^ 200 := by
      refine nat_200 (m := 40) ?_ (by decide)
      have l40 := gd.l40
      rcases List.mem_cons.mp mx.1 with h | h
      · omega
      · obtain ⟨fs, hfs, e⟩ := List.mem_map.mp h
        have := (told_sub T fs hfs).length_le
        omega
    refine ⟨_, .int (mn : Int), rfl, .dp (.int _), int_hd, nat_sh m200, int_dp, nat_le m200, (show 1 ≤ sizeLine by decide), fun Z nZ => ?_⟩
    have sZ := sn nZ (o := .lst [.int 0])
    have hZ := upd_same (H := H9) (a := Z) (o := .lst [.int 0])
    generalize upd H9 Z (.lst [.int 0]) = H10 at sZ hZ ⊢
    have s410 := s49.trans sZ
    have tb10 : TabAt H10 (cardsL xs rs) ts1 (told xs rs T) := TabP.same tb4 s410
    have hT10 := s410 _ _ hT4
    have l1200 : ts1.length ≤ 20 * 60 := by rw [tb4.len]; exact Nat.le_trans many (Nat.mul_le_mul (Nat.le_refl _) l60)
    refine ⟨_, rfl, TL, rfl, ⟨_, SqL.of hT10⟩, fun D nD => lc_list (K := K) (a := TL) (xs := ts1.map V.ref) (fun i H' => H' D = some (.lst ((lens ((told xs rs T).take i)).map V.int)) ∧ Same H10 H') ⟨by rw [List.take_zero]; exact upd_same, sn nD⟩ (fun i H' _ h => SqL.of (h.2 _ _ hT10)) ?_ ?_⟩
    · rintro i x H' hx ⟨w1, w2⟩
      rw [List.getElem?_map] at hx
      obtain ⟨t, ht, rfl⟩ := Option.map_eq_some_iff.mp hx
      obtain ⟨p, q, fs, e1, _, _, _, h1, h2, _⟩ := tb10.at ht
      have il : i < ts1.length := (List.getElem?_eq_some_iff.mp ht).1
      refine ⟨rfl, _, rfl, t, _, _, .ref p, rfl, rfl, SqT.of (w2 _ _ h1), atI_nat (j := 0) rfl, p, _, rfl, .inl (SqL.of (w2 _ _ h2)), _, w1, ?_, ?_, fun b o hb => ?_⟩
      · unfold lens
        rw [List.length_map, List.length_map, List.length_take, sizeLine_eq]
        omega
      · rw [upd_same, take_one e1, lens, lens, List.map_append, List.map_append, List.length_map]
        rfl
      · rw [upd_ne (ne_of_none hb nD)]
        exact w2 _ _ hb
    rintro H11 ⟨w1, w2⟩
    rw [List.length_map, tb4.len, List.take_length] at w1
    refine ⟨Z, D, _, _, rfl, rfl, w2 _ _ hZ, w1, ?_, fun M nM => ?_⟩
    · unfold lens
      rw [List.length_map, List.length_map, ← tb4.len, sizeLine_eq]
      show 1 + ts1.length ≤ _
      omega
    have sM := sn nM (o := .lst ([.int 0] ++ (lens (told xs rs T)).map V.int))
    have hM : upd H11 M (.lst ([.int 0] ++ (lens (told xs rs T)).map V.int)) M = some (.lst ((0 :: lens (told xs rs T)).map V.int)) := upd_same
    generalize upd H11 M (.lst ([.int 0] ++ (lens (told xs rs T)).map V.int)) = H12 at sM hM ⊢
    refine ⟨M, _, rfl, SqL.of hM, Nat.succ_pos _, fun m' hm hle => ?_⟩
    obtain rfl : (mn : Int) = m' := mx.uniq ⟨hm, hle⟩
    refine ⟨_, .int (mn : Int), rfl, .dp (.int _), int_hd, nat_sh m200, int_dp, nat_le m200, ?_⟩
    refine ⟨rfl, _, rfl, ?_⟩
    rw [decide_eq_true rfl]
    refine iteF ?_
    have s412 := s410.trans (w2.trans sM)
    obtain ⟨tw, tfine⟩ := tr.tr.fine fun z hz => gd.nm z (tr.sub z hz)
    have tshape := tfine.shaped2 (by decide)
    refine ⟨_, rfl, _, rfl, treeD T, treeD T, (tr4.same s412).tr.dp, (TrS.same tu4 s412).dp, tshape, tshape, ?_⟩
    rw [eqv_fine tfine]
    refine ⟨_, rfl, iteF ?_⟩
    have s612 := s68.trans (s9.trans (sZ.trans (w2.trans sM)))
    have hHe12 := (s6.trans s612) _ _ hHe
    have hEv12 := s612 _ _ hEv
    have l40 := gd.l40
    have cl : (cardsL xs rs (fldL xs (lvs T))).length ≤ xs.length := List.length_filter_le _ _
    refine ⟨_, rfl, .inl ⟨rfl, _, SqL.of hHe12⟩, He, _, .str "more", rfl, rfl, hHe12, small1000 (by rw [List.length_map]; omega), ?_⟩
    have s413 : Same H4 (upd H12 He (.lst ((cardsL xs rs (fldL xs (lvs T))).map V.str ++ [.str "more"]))) := same_upd s412 nHe
    have nHe5 : H5 He ≠ none := by rw [hHe]; exact fun e => nomatch e
    have u13 : ∀ {b : Addr} {o : HO}, H5 b = none → H12 b = some o → upd H12 He (.lst ((cardsL xs rs (fldL xs (lvs T))).map V.str ++ [.str "more"])) b = some o := fun {b o} h e => by
      have ne : b ≠ He := fun q => nHe5 (by rw [← q]; exact h)
      rw [upd_ne ne]
      exact e
    have hEv13 := u13 nEv hEv12
    have mut13 : ∀ t ∈ ts2, Mut H4 (upd H12 He (.lst ((cardsL xs rs (fldL xs (lvs T))).map V.str ++ [.str "more"]))) Ev 60 t := fun t ht => by
      obtain ⟨i, hi⟩ := List.mem_iff_getElem?.mp ht
      obtain ⟨p, q, fs, e1, n1, n2, n3, h1, h2, h3⟩ := tb6.at hi
      have fl := (told_sub T fs (List.mem_of_getElem? e1)).length_le
      have gl : (cardsL xs rs fs).length ≤ xs.length := List.length_filter_le _ _
      have ne : ∀ (b : Addr) (ws : List Str), H6 b = some (.lst (ws.map V.str)) → b ≠ Ev := fun b ws h e => by
        rw [e, hEv] at h
        have e2 := Option.some.inj h
        injection e2 with e2
        have m1 : V.ref t ∈ ts2.map V.ref := List.mem_map.mpr ⟨t, ht, rfl⟩
        rw [e2] at m1
        obtain ⟨_, _, e3⟩ := List.mem_map.mp m1
        cases e3
      exact ⟨p, q, _, _, u13 n1 (s612 _ _ h1), s5.free n2, s5.free n3, ne p _ h2, ne q _ h3, u13 n2 (s612 _ _ h2), by rw [List.length_map]; omega, u13 n3 (s612 _ _ h3), by rw [List.length_map]; omega⟩
    generalize upd H12 He (.lst ((cardsL xs rs (fldL xs (lvs T))).map V.str ++ [.str "more"])) = H13 at s413 hEv13 mut13 ⊢
    have l1200' : ts2.length ≤ 20 * 60 := by rw [tb6.len]; exact Nat.le_trans many (Nat.mul_le_mul (Nat.le_refl _) l60)
    refine ⟨_, rfl, Ev, rfl, ⟨_, SqL.of hEv13⟩, for_list (K := K) (a := Ev) (xs := ts2.map V.ref) (fun i σ H' => ∃ o9 : Option V, σ = [some (.ref a), some (.ref R), some v, some (.ref TL), some u, some (.ref E1), some (.ref Fd), some (.ref He), some (.ref Ev), o9, none] ∧ Same H4 H' ∧ H' Ev = some (.lst (ts2.map V.ref)) ∧ ∀ t ∈ ts2, Mut H4 H' Ev (60 + 2 * i) t)
      ⟨none, rfl, s413, hEv13, mut13⟩ (fun i σ H' _ h => by obtain ⟨_, _, _, h, _⟩ := h; exact SqL.of h) ?_ ?_⟩
    · rintro i x σ H' hx ⟨o9, rfl, w1, w2, w3⟩
      rw [List.getElem?_map] at hx
      obtain ⟨t, ht, rfl⟩ := Option.map_eq_some_iff.mp hx
      have il : i < ts2.length := (List.getElem?_eq_some_iff.mp ht).1
      have tm := List.mem_of_getElem? ht
      obtain ⟨p, q, ws, us, h1, h2, h3, h4, h5, h6, h7, h8, h9⟩ := w3 t tm
      refine ⟨_, rfl, t, _, _, .ref p, rfl, rfl, SqT.of h1, atI_nat (j := 0) rfl, .inl ⟨rfl, _, SqL.of h6⟩, p, _, .str "more", rfl, rfl, h6, by rw [sizeLine_eq]; omega, ?_⟩
      have w1' : Same H4 (upd H' p (.lst (ws ++ [.str "more"]))) := same_upd w1 h2
      have w2' : upd H' p (.lst (ws ++ [.str "more"])) Ev = some (.lst (ts2.map V.ref)) := by rw [upd_ne (Ne.symm h4)]; exact w2
      have w3' : ∀ t ∈ ts2, Mut H4 (upd H' p (.lst (ws ++ [.str "more"]))) Ev (60 + 2 * i + 1) t := fun t' ht' => (w3 t' ht').app h6 h7
      generalize upd H' p (.lst (ws ++ [.str "more"])) = H'' at w1' w2' w3' ⊢
      obtain ⟨p2, q2, ws2, us2, k1, k2, k3, k4, k5, k6, k7, k8, k9⟩ := w3' t tm
      refine ⟨_, rfl, t, _, _, .ref q2, rfl, rfl, SqT.of k1, atI_nat (j := 1) rfl, .inl ⟨rfl, _, SqL.of k8⟩, q2, _, .str "more", rfl, rfl, k8, by rw [sizeLine_eq]; omega, ?_⟩
      exact ⟨_, rfl, same_upd w1' k3, by rw [upd_ne (Ne.symm k5)]; exact w2', fun t' ht' => (w3' t' ht').app k8 k9⟩
    rintro σ H14 ⟨o9, rfl, s414, hEv14, _⟩
    refine ⟨_, rfl, .inl ⟨rfl, _, SqL.of hEv14⟩, Ev, _, .non, rfl, rfl, hEv14, by rw [List.length_map, sizeLine_eq]; omega, ?_⟩
    have s415 : Same H4 (upd H14 Ev (.lst (ts2.map V.ref ++ [.non]))) := same_upd s414 nEv4
    generalize upd H14 Ev (.lst (ts2.map V.ref ++ [.non])) = H15 at s415 ⊢
    have fx : (fldL xs (lvs T)).length ≤ xs.length := List.length_filter_le _ _
    refine ⟨_, rfl, _, rfl, a, v, xs, lvs T, rs, rfl, pa4.same s415, ra, (tr4.same s415).f, fun D16 H16 s16 nD16 hD16 => ⟨.inl ⟨rfl, _, SqL.of hD16⟩, D16, _, .str "more", rfl, rfl, hD16, small1000 (by rw [List.length_map]; omega), ?_⟩⟩
    have s417 : Same H4 (upd H16 D16 (.lst ((fldL xs (lvs T)).map V.str ++ [.str "more"]))) := same_upd (s415.trans s16) (s415.free nD16)
    generalize upd H16 D16 (.lst ((fldL xs (lvs T)).map V.str ++ [.str "more"])) = H17 at s417 ⊢
    refine ⟨_, rfl, _, rfl, a, v, xs, lvs T, rs, rfl, pa4.same s417, ra, (tr4.same s417).f, fun A1 H18 s18 nA1 hA1 => ?_⟩
    have s418 := s417.trans s18
    refine ⟨_, rfl, _, rfl, a, v, xs, rs, T, rfl, pa4.same s418, ra, tr4.same s418, fun A2 ts3 H19 s19 nA2 hA2 tb19 => ?_⟩
    have s419 := s418.trans s19
    refine ⟨_, rfl, _, rfl, a, v, xs, lvs T, rs, rfl, pa4.same s419, ra, (tr4.same s419).f, fun A3 H20 s20 nA3 hA3 => ⟨(show 3 ≤ sizeLine by decide), fun Ag nAg => ?_⟩⟩
    have sA := sn nAg (o := .lst [.ref A1, .ref A2, .ref A3])
    have hAg := upd_same (H := H20) (a := Ag) (o := .lst [.ref A1, .ref A2, .ref A3])
    generalize upd H20 Ag (.lst [.ref A1, .ref A2, .ref A3]) = H21 at sA hAg ⊢
    have s421 := s419.trans (s20.trans sA)
    refine ⟨_, rfl, _, rfl, _, rfl, _, rfl, (show 3 ≤ sizeLine by decide), fun Dg nDg => ?_⟩
    have sD := sn nDg (o := .lst [.ref E1, .ref TL, .ref Fd])
    have hDg := upd_same (H := H21) (a := Dg) (o := .lst [.ref E1, .ref TL, .ref Fd])
    generalize upd H21 Dg (.lst [.ref E1, .ref TL, .ref Fd]) = H22 at sD hDg ⊢
    have s422 := s421.trans sD
    have s2022 := sA.trans sD
    have s1922 := s20.trans s2022
    have d1 : Dp K H22 (.ref Ag) (.list [rd (cardsL xs rs (fldL xs (lvs T))), tabD (cardsL xs rs) (told xs rs T), rd (fldL xs (lvs T))]) := .lst (SqL.of (sD _ _ hAg)) (.cons (dp_row ((s19.trans s1922) _ _ hA1)) (.cons (TabP.dp (s1922 _ _ hA2) (TabP.same tb19.any s1922)) (.cons (dp_row (s2022 _ _ hA3)) .nil)))
    have d2 : Dp K H22 (.ref Dg) (.list [rd (cardsL xs rs (fldL xs (lvs T))), tabD (cardsL xs rs) (told xs rs T), rd (fldL xs (lvs T))]) := .lst (SqL.of hDg) (.cons (dp_row (s422 _ _ hE4)) (.cons (TabP.dp (s422 _ _ hT4) (TabP.same tb4 s422)) (.cons (dp_row (s422 _ _ hF)) .nil)))
    have c40 : FineN (rd (cardsL xs rs (fldL xs (lvs T)))) 3 360 := (fine_row40 (fun z hz => gd.nm z (List.mem_filter.mp hz).1) (Nat.le_trans cl l40)).mono (by decide) (Nat.le_refl _)
    have f40 : FineN (rd (fldL xs (lvs T))) 3 360 := (fine_row40 (fun z hz => gd.nm z (List.mem_filter.mp hz).1) (Nat.le_trans fx l40)).mono (by decide) (Nat.le_refl _)
    have fl3 := (FineAll.cons c40 (.cons fine (.cons f40 (.nil 3 0)))).list
    refine ⟨_, _, d1, d2, fl3.shaped2 (by decide), fl3.shaped2 (by decide), ?_⟩
    rw [eqv_fine fl3]
    refine ⟨_, rfl, iteT ?_⟩
    refine ⟨_, rfl, _, rfl, treeD T, treeD T, (tr4.same s422).tr.dp, (TrS.same tu4 s422).dp, tshape, tshape, ?_⟩
    rw [eqv_fine tfine]
    exact k H22 (s04.trans s422)
end
end K24

set_option maxHeartbeats 8000000
namespace K24
open PySem PySem.Spec PyProof.Rows L2 G1
theorem for_str {x : Str} {g : TG} {tb : TS} {D : Ends} {σ : L2.St} {H : Hp} (Pv : Nat → L2.St → Hp → Prop) (h0 : Pv 0 σ H)
    (hs : ∀ i c σ H, x.cps[i]? = some c → Pv i σ H → g (.str ⟨#[c]⟩) σ H fun σ2 H2 => tb { D with nx := Pv (i + 1), ct := Pv (i + 1), bk := D.nx } σ2 H2) (hd : ∀ σ H, Pv x.cps.size σ H → D.nx σ H) :
    ∃ W : Nat → Nat → L2.St → Hp → Prop, (∃ m, W 0 m σ H) ∧ ∀ i m σ H, W i m σ H →
      ((Its x).stop i H ∧ D.nx σ H) ∨ ((Its x).go i H ∧ ∃ N : L2.St → Hp → Prop, (∀ σ' H', N σ' H' → ∃ m', m' < m ∧ W (i + 1) m' σ' H') ∧ ∀ y H', (Its x).yld i H y H' → g y σ H' fun σ2 H2 => tb { D with nx := N, ct := N, bk := D.nx } σ2 H2) := by
  refine ⟨fun i m σ H => m = x.cps.size - i ∧ i ≤ x.cps.size ∧ Pv i σ H, ⟨x.cps.size, by simp, Nat.zero_le _, h0⟩, ?_⟩
  rintro i m σ H ⟨rfl, hi, p⟩
  by_cases hlt : i < x.cps.size
  · refine .inr ⟨hlt, Pv (i + 1), fun σ' H' p' => ⟨x.cps.size - (i + 1), by omega, rfl, hlt, p'⟩, fun y H' z => ?_⟩
    obtain ⟨rfl, c, hc, rfl⟩ := z
    exact hs i c σ H' hc p
  · have e : i = x.cps.size := by omega
    subst e
    exact .inl ⟨Nat.le_refl _, hd σ H p⟩
abbrev rSAdd : R2 := fun x y H Q => ∃ i j, x = .str i ∧ y = .str j ∧ i.length + j.length ≤ sizeLine ∧ Q (.str (i ++ j)) H
def signs (z : Str) : List Str := z.cps.toList.map fun c => ⟨#[c]⟩
def tails6 : List Str := signs "klmnop"
def many48 (n : Nat) : List Str := ((signs "abcdefgh").take n).flatMap fun c => tails6.map fun d => c ++ d
theorem many_nd : (many48 8).Nodup := by decide +kernel
theorem many_nm : ∀ z ∈ many48 8, Nm z := fun z hz => isNm_iff.mp (List.all_eq_true.mp (show (many48 8).all isNm = true by decide +kernel) z hz)
theorem many_len : (many48 8).length = 48 := by decide +kernel
def spMany : Sp := fun vs H Q _ => ∃ (p : Addr) (m c : Nat), vs = [.ref p, .int (m : Int)] ∧ 1 ≤ m ∧ m ≤ 48 ∧ Purse H p c ∧ c ≤ 800000 ∧
  ∀ (D : Addr) (xs : List Str) (H' : Hp), Ents xs → xs.length = m → H' D = some (.lst (xs.map V.str)) → H D = none → Purse H' p (c + 150) → But p H H' → Q (.ref D) H'
section
variable {P : Program} {w : World} {K : PySem.W.Frag} {mg : Str → Option Value} {base : Heap} {C : Addr}
end
end K24

set_option maxHeartbeats 16000000
namespace K24
open PySem PySem.Spec PyProof.Rows L2 G1
def ch8 (k : Nat) : Nat := ("abcdefgh" : Str).cps.toList.getD k 0
def ch5 (k : Nat) : Nat := ("abcde" : Str).cps.toList.getD k 0
def wn (i : Nat) : Str := (("a" : Str) ++ (⟨#[ch8 (i % 8)]⟩ : Str)) ++ (⟨#[ch5 (i / 8)]⟩ : Str)
def wides (n : Nat) : List Str := (List.range n).map wn
theorem wides_nd : (wides 40).Nodup := by decide +kernel
theorem wides_nm : ∀ z ∈ wides 40, Nm z := fun z hz => isNm_iff.mp (List.all_eq_true.mp (show (wides 40).all isNm = true by decide +kernel) z hz)
theorem wides_take {n : Nat} (h : n ≤ 40) : (wides 40).take n = wides n := by
  unfold wides
  rw [← List.map_take, List.take_range, Nat.min_eq_left h]
theorem wides_succ {n : Nat} : wides (n + 1) = wides n ++ [wn n] := by
  unfold wides
  rw [List.range_succ, List.map_append]
  rfl
theorem wide_at {i : Nat} (h : i < 40) : atI ("abcdefgh" : Str).cps.toList (((0 : Int) + (i : Int)) % 8) = some (ch8 (i % 8)) ∧ atI ("abcde" : Str).cps.toList (((0 : Int) + (i : Int)) / 8) = some (ch5 (i / 8)) ∧ (("a" : Str) ++ (⟨#[ch8 (i % 8)]⟩ : Str)).length = 2 := by
  have d : ∀ i ∈ List.range 40, atI ("abcdefgh" : Str).cps.toList (((0 : Int) + (i : Int)) % 8) = some (ch8 (i % 8)) ∧ atI ("abcde" : Str).cps.toList (((0 : Int) + (i : Int)) / 8) = some (ch5 (i / 8)) ∧ (("a" : Str) ++ (⟨#[ch8 (i % 8)]⟩ : Str)).length = 2 := by decide +kernel
  exact d i (List.mem_range.mpr h)
def spWR : Sp := fun vs H Q _ => ∃ (p : Addr) (c : Nat), vs = [.ref p] ∧ Purse H p c ∧ c ≤ 100000 ∧ ∀ H', Purse H' p (c + 9000) → But p H H' → Q (.bl true) H'
section
variable {P : Program} {w : World} {K : PySem.W.Frag} {mg : Str → Option Value} {base : Heap} {C : Addr}
abbrev sWR : Stmt := top 60
abbrev nWR : List Str := ["_law_purse_here", "_law_names_here", "_law_at", "_law_rows", "_law_field"]
theorem scWR : FnScope nWR ["_law_purse_here"] (defScope sWR) := ⟨rfl, rfl, rfl, by decide +kernel, rfl, by decide +kernel, by decide +kernel⟩
theorem ok_wR {f : Addr} {fd : FuncData} (F : FnP K "_law_wide_right" sWR f fd) (L : Lib K mg) (LP : LibP mg) (D__law_draw : Df P w K mg base 2 "_law_draw" sDraw ["_law_purse_here", "_law_many"] spDraw) (D__law_rows_of : Df P w K mg base 4 "_law_rows_of" sRows ["_law_purse_here", "_law_names_here", "_law_many"] (spRowsW K)) (D__law_shuffled : Df P w K mg base 3 "_law_shuffled" sShuf ["_law_purse_here", "_law_some"] (spShuf K)) (D__law_panel : Df P w K mg base 6 "_law_panel" sPanQ ["_law_names_here", "_law_rows"] (spPanR C)) (D__law_tree_on : Df P w K mg base 23 "_law_tree_on" sTreeOn ["_law_purse_here", "_law_field"] (spOn 19)) (D__law_tree_right : DfG P w K mg base 27 "_law_tree_right" sTrR ["_law_panel_here", "_law_rows", "_law_tree"] (spTrR C)) :
    FnG P w K mg base 28 f fd ["_law_purse_here"] spWR := by
  refine gdN F scWR (fun vs H Q E h => ?_) (fun cdv A outer s H vs Q Ex hg hr h => ?_)
  · obtain ⟨_, _, rfl, _⟩ := h
    rfl
  · obtain ⟨p, c, rfl, hp, hc, k⟩ := h
    have nd := scWR.nd
    have r2 : Room 2 (A.deeper (envOfC "_law_wide_right" (defScope sWR) s.heap.objs.size f cdv)) := hr.mono (by decide)
    have r3 : Room 3 (A.deeper (envOfC "_law_wide_right" (defScope sWR) s.heap.objs.size f cdv)) := hr.mono (by decide)
    have r4 : Room 4 (A.deeper (envOfC "_law_wide_right" (defScope sWR) s.heap.objs.size f cdv)) := hr.mono (by decide)
    have r6 : Room 6 (A.deeper (envOfC "_law_wide_right" (defScope sWR) s.heap.objs.size f cdv)) := hr.mono (by decide)
    have r23 : Room 23 (A.deeper (envOfC "_law_wide_right" (defScope sWR) s.heap.objs.size f cdv)) := hr.mono (by decide)
    refine' ⟨_, pss_cons ?b0 (pss_cons ?b1 (pss_cons ?b2 (pss_one ?b3))), ?_⟩
    case b0 => exact (ps_set (i := 1) nd rfl (Or.inl rfl) (pe_callB cr_sortedS (by rfl) LP.sorted (by decide +kernel) (pa_cons (pe_lc (own := [("_law_at", 2)]) (g := gName 2) (tt := tYes) (te := (tOp rSAdd (tOp rSAdd (tC (.str "a")) (tOp rIxS (tC (.str "abcdefgh")) (tOp (rI (fun _ j => 0 < j) fun i j => .int (i % j)) (tVar 2) (tC (.int 8))))) (tOp rIxS (tC (.str "abcde")) (tOp (rI CDiv fun i j => .int (i / j)) (tVar 2) (tC (.int 8)))))) (by rfl) nd (pi_range1 (by rfl) L.range (pa_cons (pe_op op_add pe_int (pe_df D__law_draw r2 (by rfl) (pa_cons (pv 0) (pa_cons pe_int pa_nil)))) pa_nil))
        (blkOk_by (N := nWR) (sc := (defScope sWR)) (by decide +kernel)) (fun _ _ _ _ _ => (pg_name (i := 2) scWR.nd rfl (Or.inl rfl))) (fun _ _ _ _ _ => pts_nil) (fun _ _ _ _ _ => (pe_op op_add_str (pe_op op_add_str pe_str (pe_ix ix_str pe_str (pe_op op_mod (pv 2) pe_int) (fun _ _ => rfl))) (pe_ix ix_str pe_str (pe_op op_fdiv (pv 2) pe_int) (fun _ _ => rfl))))) pa_nil)))
    case b1 => exact (ps_set (i := 3) nd rfl (Or.inl rfl) (pe_df D__law_rows_of r4 (by rfl) (pa_cons (pv 0) (pa_cons (pv 1) (pa_cons (pe_op op_add pe_int (pe_df D__law_draw r2 (by rfl) (pa_cons (pv 0) (pa_cons pe_int pa_nil)))) pa_nil)))))
    case b2 => exact (ps_set (i := 4) nd rfl (Or.inl rfl) (pe_callB cr_sortedS (by rfl) LP.sorted (by decide +kernel) (pa_cons (pe_slice sl_list (pe_df D__law_shuffled r3 (by rfl) (pa_cons (pv 0) (pa_cons (pv 1) pa_nil))) po_none (po_some (pe_op op_add pe_int (pe_df D__law_draw r2 (by rfl) (pa_cons (pv 0) (pa_cons pe_int pa_nil)))))) pa_nil)))
    case b3 => exact (ps_ret (pe_dfG D__law_tree_right hr hg (by rfl) (pa_cons (pe_df D__law_panel r6 (by rfl) (pa_cons (pv 1) (pa_cons (pv 3) pa_nil))) (pa_cons (pv 3) (pa_cons (pe_df D__law_tree_on r23 (by rfl) (pa_cons (pv 0) (pa_cons (pv 4) pa_nil))) pa_nil)))))
    refine ⟨_, rfl, p, 21, c, rfl, by decide, by decide, hp, by omega, fun q3 H1 q30 q31 hp1 b1 => ⟨_, _, rfl, rfl, ?_⟩⟩
    obtain ⟨N, hN⟩ : ∃ N : Nat, (20 : Int) + q3 = (N : Int) := ⟨((20 : Int) + q3).toNat, by omega⟩
    have N20 : 20 ≤ N := by omega
    have N40 : N ≤ 40 := by omega
    refine ⟨(N : Int), (by show [V.int ((20 : Int) + q3)] = _; rw [hN]), by omega, by omega, fun W nW => lc_range (lo := 0) (n := N) (fun j H' => H' W = some (.lst ((wides j).map V.str)) ∧ Same H1 H') ⟨upd_same, sn nW⟩ ?_ ?_⟩
    · rintro j H' hj ⟨w1, w2⟩
      obtain ⟨a1, a2, a3⟩ := wide_at (show j < 40 by omega)
      refine ⟨rfl, _, rfl, _, _, rfl, rfl, (show (0 : Int) < 8 by decide), _, _, ch8 (j % 8), rfl, rfl, (show 8 ≤ sizeLine by decide), a1, _, _, rfl, rfl, Nat.le_of_lt (small1000 (show 1 + 1 ≤ 1000 by decide)), _, rfl, _, _, rfl, rfl, ⟨(show (0 : Int) < 8 by decide), (show (8 : Int) < 1073741824 by decide)⟩, _, _, ch5 (j / 8), rfl, rfl, (show 5 ≤ sizeLine by decide), a2, _, _, rfl, rfl, ?_, _, w1, small1000 ?_, ?_, fun b o e => ?_⟩
      · rw [a3]
        exact Nat.le_of_lt (small1000 (show 2 + 1 ≤ 1000 by decide))
      · unfold wides
        rw [List.length_map, List.length_map, List.length_range]
        omega
      · rw [upd_same, wides_succ, List.map_append]
        rfl
      · rw [upd_ne (ne_of_none e nW)]
        exact w2 _ _ e
    rintro H2 ⟨hW, s12⟩
    have hp2 := hp1.same s12
    have wl : (wides N).length = N := by
      unfold wides
      rw [List.length_map, List.length_range]
    have wnd : (wides N).Nodup := by
      rw [← wides_take N40]
      exact (List.take_sublist N _).nodup wides_nd
    have wnm : ∀ z ∈ wides N, Nm z := fun z hz => wides_nm z (by
      rw [← wides_take N40] at hz
      exact List.mem_of_mem_take hz)
    refine ⟨W, wides N, rfl, SqL.of hW, by omega, fun ys Y py so nY => ?_⟩
    have sY := sn nY (o := .lst (ys.map V.str))
    have hY := upd_same (H := H2) (a := Y) (o := .lst (ys.map V.str))
    generalize upd H2 Y (.lst (ys.map V.str)) = H3 at sY hY ⊢
    have hp3 := hp2.same sY
    have b03 : But p H H3 := b1.trans (But.same (s12.trans sY))
    have npY : Y ≠ p := ne_purse hY str_no_int hp3
    have ly : ys.length = N := by rw [py.length_eq, wl]
    have ynd : ys.Nodup := py.nodup_iff.mpr wnd
    have ynm : ∀ z ∈ ys, Nm z := fun z hz => wnm z (py.mem_iff.mp hz)
    refine ⟨_, rfl, _, rfl, _, rfl, p, 4, _, rfl, by decide, by decide, hp3, by omega, fun q4 H4 q40 q41 hp4 b4 => ⟨_, _, rfl, rfl, p, Y, 1 + q4, _, ys, rfl, by omega, by omega, hp4, by omega, SqL.of (b4 _ _ npY hY), npY, ynd, by omega, by omega, fun M ms us H5 hM nM hms ncm hlm hmp hp5 b5 => ?_⟩⟩
    have lM : LR H5 M ys ms us := ⟨hM, hms, ynm, ynd, by omega, by omega, so, hmp, by omega, by omega⟩
    have b35 := b4.trans b5
    have b05 := b03.trans b35
    have hY5 := b35 _ _ npY hY
    refine ⟨_, rfl, _, rfl, p, Y, ys.map V.str, _, rfl, hp5, by omega, SqL.of hY5, npY, by rw [List.length_map]; omega, fun SA vs H6 pm hS nS hp6 b6 => ?_⟩
    obtain ⟨zs, rfl, pz⟩ := perm_strs pm
    rw [List.length_map] at hp6
    have lz := pz.length_eq
    have nSp : SA ≠ p := ne_purse hS str_no_int hp6
    refine ⟨_, rfl, p, 18, _, rfl, by decide, by decide, hp6, by omega, fun q7 H7 q70 q71 hp7 b7 => ⟨_, _, rfl, rfl, _, rfl, ?_⟩⟩
    obtain ⟨m, hm⟩ : ∃ m : Nat, (2 : Int) + q7 = (m : Int) := ⟨((2 : Int) + q7).toNat, by omega⟩
    rw [hm]
    refine ⟨SA, _, rfl, SqL.of (b7 _ _ nSp hS), fun X nX => ?_⟩
    rw [cut_any (m := m), ← List.map_take]
    have sX := sn nX (o := .lst ((zs.take m).map V.str))
    have hX := upd_same (H := H7) (a := X) (o := .lst ((zs.take m).map V.str))
    generalize upd H7 X (.lst ((zs.take m).map V.str)) = H8 at sX hX ⊢
    have lt1 : (zs.take m).length = m := by rw [List.length_take]; omega
    refine ⟨X, zs.take m, rfl, SqL.of hX, by omega, fun gs G pg sg nG => ?_⟩
    have sG := sn nG (o := .lst (gs.map V.str))
    have hG := upd_same (H := H8) (a := G) (o := .lst (gs.map V.str))
    generalize upd H8 G (.lst (gs.map V.str)) = H9 at sG hG ⊢
    have hp9 := (hp7.same sX).same sG
    have b59 : But p H5 H9 := b6.trans (b7.trans (But.same (sX.trans sG)))
    have b09 := b05.trans b59
    have hY9 := b59 _ _ npY hY5
    have lM9 := lM.but hp5 b59
    have lg : gs.length = m := by rw [pg.length_eq, lt1]
    have gsub : ∀ z ∈ gs, z ∈ ys := fun z hz => pz.mem_iff.mp (List.mem_of_mem_take (pg.mem_iff.mp hz))
    refine ⟨_, rfl, _, rfl, Y, M, ys, ys, ms, us, rfl, hY9, .refl _, lM9, fun PN H10 s10 nPN pf => ?_⟩
    have pan := pf.same new_sub
    have gg : gs.length * gs.length ≤ 19 * 19 := Nat.mul_le_mul (by omega) (by omega)
    have hp10 := hp9.same s10
    refine ⟨_, rfl, _, rfl, _, rfl, p, G, _, gs, rfl, hp10, by omega, s10 _ _ hG, by omega, by omega, by decide, fun v T H11 tt mem cnt hp11 b11 => ?_⟩
    have tg : TrG H11 20 v ys T := ⟨tt.any, fun z hz => gsub z ((mem z).mp hz), by omega⟩
    refine ⟨PN, M, v, ys, ms, us, T, rfl, pan.but hp10 b11, (lM9.same s10).but hp10 b11, tg, fun H12 s12' => ?_⟩
    exact k H12 ((hp11.same s12').mono (by omega)) (b09.trans ((But.same s10).trans (b11.trans (But.same s12'))))
end
end K24

set_option maxHeartbeats 4000000
/-! repr of a list that holds the empty dict; a display that is no module table. -/
namespace G1
open PySem PySem.Spec PyProof.Rows L2
def tLstS (t : TA) : TE := fun σ H Q => t σ H fun xs H1 => xs.length ≤ sizeLine ∧ ∀ p, H1 p = none → p ≠ sysModules → Q (.ref p) (upd H1 p (.lst xs))
inductive Rp2 (K : PySem.W.Frag) (H : Hp) : V → PyData → Prop
  | rp {v : V} {d : PyData} : Rp K H v d → Rp2 K H v d
  | ld {a b : Addr} : SqL K H a [.ref b] → H b = some (.dK []) → a ≠ sysModules → Rp2 K H (.ref a) (.list [.dict []])
def rRepr2 (K : PySem.W.Frag) : List V → Hp → VK → Prop := fun xs H Q => ∃ (v : V) (d : PyData), xs = [v] ∧ Rp2 K H v d ∧ (d.hasDict = false ∨ d = .dict [] ∨ d = .list [.dict []]) ∧ d.showable = true ∧ d.depth ≤ 60 ∧ d.shown.length ≤ sizeLine ∧ Q (.str d.shown) H
section
variable {X : Cx} {es : List Expr} {t : TA} {pos : Pos}
theorem pe_lstS (h : PA X es t) : PE X (.List es pos) (tLstS t) := by
  refine ⟨fun pins s σ H Q I hq => ?_⟩
  refine wpAny_List_spliced (thn (h.run pos pins s σ H _ I hq) fun us s1 ⟨xs, H1, I1, r, z, q⟩ => ⟨by rw [← r.length]; exact z, ?_⟩)
  have hf : H1 s1.heap.objs.size = none := I1.hok.fresh (Nat.le_refl _)
  have hb : s1.heap.objs.size ≠ sysModules := Nat.ne_of_gt I1.big
  refine ⟨.ref s1.heap.objs.size, upd H1 s1.heap.objs.size (.lst xs), I1.laid (t' := s1.toks) (fun b u e => Heap.get?_push_of_some _ e) (Nat.le_refl _) ?_, rfl, q _ hf hb⟩
  exact ⟨z, us, 0, r, Heap.get?_push_size _ rfl⟩
theorem call_repr2 (hgd : Gd X.A) (hu : X.A.units + 64 < cLine) : CallR X (.builtin "repr") (rRepr2 X.K) := by
  intro pins s σ H xs us Q I r h
  obtain ⟨v, d, rfl, hr, hs, hsh, hdp, hl, q⟩ := h
  cases hr with
  | rp hr =>
    refine call_repr hgd hu pins s σ H [v] us Q I r ⟨v, d, rfl, hr, ?_, hsh, hdp, hl, q⟩
    rcases hs with h | h | h
    · exact .inl h
    · exact .inr h
    · subst h
      cases hr with
      | dp h =>
        cases h with
        | lst _ ha =>
          cases ha with
          | cons h1 _ => cases h1
  | @ld a b hs1 hb hne =>
    obtain ⟨u, rfl, ru⟩ := vals1 r
    cases (show u = Value.ref a from ru)
    obtain ⟨its, rv, ⟨o, n, ho, hc, _, hd⟩, _⟩ := I.list hs1
    obtain ⟨ub, rfl, rub⟩ := vals1 rv
    cases (show ub = Value.ref b from rub)
    obtain ⟨as, hR, hsm⟩ := rp_reads I (.dct hb) (show RelV (.ref b) (.ref b) from rfl) (.inr rfl)
    have hall : Reads s.heap (.ref a) (.list [.dict []]) (a :: (as ++ [])) := .list ho hc hd (.cons hR .nil)
    refine repr_of_reads' hall hsh (fun _ z => ?_) hgd (by omega) (fun _ _ e => e) (fun h' w tk k => ⟨.str _, H, I.kept k, ⟨w, rfl⟩, q⟩) hl
    rcases List.mem_cons.mp z with e | e
    · exact hne e.symm
    · rw [List.append_nil] at e
      exact hsm (by simp [PyData.hasDict]) e
end
theorem ld_all : (PyData.list [.dict []]).showable = true ∧ (PyData.list [.dict []]).depth ≤ 60 ∧ (PyData.list [.dict []]).shown.length ≤ sizeLine := by decide +kernel
theorem d0_all : (PyData.dict []).showable = true ∧ (PyData.dict []).depth ≤ 60 ∧ (PyData.dict []).shown.length ≤ sizeLine := by decide +kernel
mutual
theorem dp_sm {K : PySem.W.Frag} {H H' : Hp} (s : Same H H') : ∀ {v : V} {d : PyData}, Dp K H v d → Dp K H' v d
  | _, _, .non => .non
  | _, _, .bl b => .bl b
  | _, _, .int i => .int i
  | _, _, .str x => .str x
  | _, _, .lst q h => .lst (s.seq q) (dpAll_sm s h)
  | _, _, .tup q h => .tup (by
      rcases q with (e | ⟨o, e⟩) | q
      · exact .inl (.inl (s _ _ e))
      · exact .inl (.inr ⟨o, s _ _ e⟩)
      · exact .inr q) (dpAll_sm s h)
theorem dpAll_sm {K : PySem.W.Frag} {H H' : Hp} (s : Same H H') : ∀ {vs : List V} {ds : List PyData}, DpAll K H vs ds → DpAll K H' vs ds
  | _, _, .nil => .nil
  | _, _, .cons h t => .cons (dp_sm s h) (dpAll_sm s t)
end
theorem rp2_sm {K : PySem.W.Frag} {H H' : Hp} {v : V} {d : PyData} (s : Same H H') (r : Rp2 K H v d) : Rp2 K H' v d := by
  cases r with
  | rp r =>
    cases r with
    | dp r => exact .rp (.dp (dp_sm s r))
    | dct e => exact .rp (.dct (s _ _ e))
  | ld q1 q2 q3 => exact .ld (s.seq q1) (s _ _ q2) q3
end G1

set_option maxHeartbeats 8000000
namespace K24
open PySem PySem.Spec PyProof.Rows L2 G1
/-! ### lists made by a comprehension, as data -/
theorem ld_none {H : Hp} {D : Addr} : delH H D D = none := by
  unfold delH
  simp
theorem ld_snoc {K : PySem.W.Frag} {H : Hp} {v : V} {d : PyData} : ∀ {vs : List V} {ds : List PyData}, DpAll K H vs ds → Dp K H v d → DpAll K H (vs ++ [v]) (ds ++ [d])
  | _, _, .nil, h => .cons h .nil
  | _, _, .cons q t, h => .cons q (ld_snoc t h)
/-- one thing of data for each thing of a list -/
theorem ld_list {K : PySem.W.Frag} {a D : Addr} {k : Nat} {sl : List Nat} {us : List V} {te : TE} {f : Nat → PyData} {H1 : Hp} {σ : L2.St} {Qd : Hp → Prop} (ha : SqL K H1 a us) (le : us.length ≤ 60) (hD : H1 D = none)
    (hw : ∀ v, wipe ((wipe σ sl).set k (some v)) sl = wipe σ sl)
    (hs : ∀ (i : Nat) (x : V) (H' : Hp) (Qk : VK), us[i]? = some x → Same H1 H' → (∃ acc, H' D = some (.lst acc)) → (∀ v H5 Z, Same H' H5 → Same Z H5 → Z D = none → Dp K Z v (f i) → Qk v H5) → te ((wipe σ sl).set k (some x)) H' Qk)
    (hd : ∀ H', Same H1 H' → Dp K H' (.ref D) (.list ((List.range us.length).map f)) → Qd H') : ∃ W : Nat → Nat → Hp → Prop, (∃ m, W 0 m (upd H1 D (.lst []))) ∧ ∀ i m H, W i m H → ((Itl K a).stop i H ∧ Qd H) ∨ ((Itl K a).go i H ∧ ∃ Nx : Hp → Prop, (∀ H', Nx H' → ∃ m', m' < m ∧ W (i + 1) m' H') ∧ ∀ x H', (Itl K a).yld i H x H' → gName k x (wipe σ sl) H' fun σ2 H2 => wipe σ2 sl = wipe σ sl ∧ tYes σ2 H2 fun b H3 => if b = true then te σ2 H3 fun y H4 => ∃ acc, H4 D = some (.lst acc) ∧ acc.length < sizeLine ∧ Nx (upd H4 D (.lst (acc ++ [y]))) else Nx H3) := by
  refine lc_list (K := K) (a := a) (xs := us) (fun i H' => ∃ vs : List V, H' D = some (.lst vs) ∧ vs.length = i ∧ DpAll K (delH H' D) vs ((List.range i).map f) ∧ Same H1 (delH H' D)) ⟨[], upd_same, rfl, .nil, same_del (sn hD) hD⟩ (fun i H' _ h => by obtain ⟨_, _, _, _, h⟩ := h; exact (h.trans del_sub).seq ha) ?_ ?_
  · rintro i x H' hi ⟨vs, q1, q2, q3, q4⟩
    have li : i < us.length := (List.getElem?_eq_some_iff.mp hi).1
    refine ⟨hw _, hs i x H' _ hi (q4.trans del_sub) ⟨_, q1⟩ fun v H5 Z s5 sZ nZ dv => ?_⟩
    have sA : Same (delH H' D) (delH H5 D) := same_del (del_sub.trans s5) ld_none
    have sB : Same Z (delH H5 D) := same_del sZ nZ
    have sU : Same (delH H5 D) (delH (upd H5 D (.lst (vs ++ [v]))) D) := del_upd
    refine ⟨vs, s5 _ _ q1, small1000 (by omega), vs ++ [v], upd_same, by rw [List.length_append, q2]; rfl, ?_, q4.trans (sA.trans sU)⟩
    rw [List.range_succ, List.map_append]
    exact ld_snoc (dpAll_sm (sA.trans sU) q3) (dp_sm (sB.trans sU) dv)
  · rintro H3 ⟨vs, q1, q2, q3, q4⟩
    exact hd H3 (q4.trans del_sub) (.lst (SqL.of q1) (dpAll_sm del_sub q3))
end K24

set_option maxHeartbeats 16000000
namespace K24
open PySem PySem.Spec PyProof.Rows L2 G1
theorem TrR.tree {Pd : Addr → Prop} {H : Hp} {d : Nat} {v : V} {ls : List Str} (h : TrR Pd H (d + 1) v ls) : ∃ T, TrS Pd H (d + 1) v T ∧ lvs T = ls ∧ ((∃ z, v = .str z) ∨ ∃ (a : Addr) (vs : List V) (ts : List PT), v = .ref a ∧ T = .node ts ∧ Pd a ∧ H a = some (.lst vs) ∧ ts.length = vs.length ∧ 1 ≤ vs.length ∧ ∀ (i : Nat) (x : V) (t : PT), vs[i]? = some x → ts[i]? = some t → TrS (fun b => Pd b ∧ b ≠ a) H d x t) := by
  rcases h with ⟨z, rfl, rfl⟩ | ⟨a, vs, lss, rfl, pa, h, l1, l2, l3, f, rfl⟩
  · exact ⟨.leaf z, TrS.leaf, by simp [lvs], .inl ⟨z, rfl⟩⟩
  · obtain ⟨ts, lt, ft⟩ := pick_all (R := fun (p : V × List Str) (T : PT) => TrS (fun b => Pd b ∧ b ≠ a) H d p.1 T ∧ lvs T = p.2) (as := vs.zip lss) fun p hp => by
      obtain ⟨i, hi⟩ := List.mem_iff_getElem?.mp hp
      rw [List.getElem?_zip_eq_some] at hi
      exact TrP.tree (f i p.1 p.2 hi.1 hi.2)
    rw [List.length_zip] at lt
    have zat : ∀ (i : Nat) (x : V) (l : List Str), vs[i]? = some x → lss[i]? = some l → (vs.zip lss)[i]? = some (x, l) := fun i x l h1 h2 => by
      rw [List.getElem?_zip_eq_some]
      exact ⟨h1, h2⟩
    have kids : ∀ (i : Nat) (x : V) (t : PT), vs[i]? = some x → ts[i]? = some t → TrS (fun b => Pd b ∧ b ≠ a) H d x t := fun i x t hx ht => by
      obtain ⟨l, hl⟩ : ∃ l, lss[i]? = some l := ⟨_, List.getElem?_eq_getElem (by have := (List.getElem?_eq_some_iff.mp hx).1; omega)⟩
      exact (ft i _ _ (zat i x l hx hl) ht).1
    refine ⟨.node ts, .inr ⟨a, vs, ts, rfl, pa, h, l1, l2, by omega, fun i x t hx ht => (kids i x t hx ht).keep (fun _ h _ => h.1) fun _ _ _ e => e, rfl⟩, ?_, .inr ⟨a, vs, ts, rfl, rfl, pa, h, by omega, l1, kids⟩⟩
    rw [lvs, lvsL_eq]
    congr 1
    refine list_ext (by rw [List.length_map]; omega) fun i a b ha hb => ?_
    rw [List.getElem?_map] at ha
    obtain ⟨t, ht, rfl⟩ := Option.map_eq_some_iff.mp ha
    obtain ⟨x, hx⟩ : ∃ x, vs[i]? = some x := ⟨_, List.getElem?_eq_getElem (by have := (List.getElem?_eq_some_iff.mp hb).1; omega)⟩
    exact (ft i _ _ (zat i x b hx hb) ht).2
theorem TrS.but {Pd : Addr → Prop} {H H' : Hp} {p : Addr} (np : ∀ b, Pd b → b ≠ p) (b : But p H H') {d : Nat} {v : V} {T : PT} (h : TrS Pd H d v T) : TrS Pd H' d v T := h.keep (fun _ h _ => h) fun a o h e => b a o (np a h) e
theorem kids_le : ∀ {ts : List PT}, (∀ t ∈ ts, 1 ≤ (lvs t).length) → ts.length ≤ (lvsL ts).length
  | [], _ => Nat.zero_le _
  | t :: ts, h => by
    have h1 := h t (.head _)
    have h2 := kids_le fun x hx => h x (.tail _ hx)
    rw [lvsL, List.length_append, List.length_cons]
    omega
/-- what is asked of a tree, as data -/
def askD (xs : List Str) (rs : List (List Str)) (T : PT) : PyData := .list [rd (cardsL xs rs (fldL xs (lvs T))), rd (fldL xs (lvs T)), tabD (cardsL xs rs) (told xs rs T)]
theorem ask_fine {xs : List Str} {rs : List (List Str)} (gd : GoodW xs rs) (T : PT) : ∃ w, FineN (askD xs rs T) 4 w := by
  have l40 := gd.l40
  have c40 : FineN (rd (cardsL xs rs (fldL xs (lvs T)))) 3 360 := (fine_row40 (fun z hz => gd.nm z (List.mem_filter.mp hz).1) (Nat.le_trans (List.length_filter_le _ _) l40)).mono (by decide) (Nat.le_refl _)
  have f40 : FineN (rd (fldL xs (lvs T))) 3 360 := (fine_row40 (fun z hz => gd.nm z (List.mem_filter.mp hz).1) (Nat.le_trans (List.length_filter_le _ _) l40)).mono (by decide) (Nat.le_refl _)
  exact ⟨_, (FineAll.cons c40 (.cons f40 (.cons (told_fine gd T) (.nil 3 0)))).list⟩
theorem fine_all {n : Nat} : ∀ {ds : List PyData}, (∀ d ∈ ds, ∃ w, FineN d n w) → ∃ w, FineAll ds n w
  | [], _ => ⟨0, .nil n 0⟩
  | d :: ds, h => by
    obtain ⟨w, e⟩ := fine_all fun x hx => h x (.tail _ hx)
    obtain ⟨v, q⟩ := h d (.head _)
    exact ⟨_, .cons q e⟩
def spKR (C : Addr) : Sp := fun vs H Q _ => ∃ (p n R a : Addr) (c : Nat) (xs : List Str) (as : List Addr) (rs : List (List Str)), vs = [.ref p, .ref n, .ref R, .ref a] ∧ Purse H p c ∧ c ≤ 100000 ∧ H n = some (.lst (xs.map V.str)) ∧ LR H R xs as rs ∧ PanF H C a xs rs ∧ ∀ H', Purse H' p (c + 400) → But p H H' → Q (.bl true) H'
section
variable {P : Program} {w : World} {K : PySem.W.Frag} {mg : Str → Option Value} {base : Heap} {C : Addr}
abbrev sKR : Stmt := top 61
abbrev nKR : List Str := ["_law_purse_here", "_law_names_here", "_law_rows", "_law_panel_here", "_law_trees", "_law_turn", "_law_told", "_law_one", "_law_due"]
theorem scKR : FnScope nKR ["_law_purse_here", "_law_names_here", "_law_rows", "_law_panel_here"] (defScope sKR) := ⟨rfl, rfl, rfl, by decide +kernel, rfl, by decide +kernel, by decide +kernel⟩
theorem ok_kR {f : Addr} {fd : FuncData} (F : FnP K "_law_kept_right" sKR f fd) (L : Lib K mg) (D__law_cards : Df P w K mg base 1 "_law_cards" sLC ["_law_rows", "_law_field"] (spLC K)) (D__law_tree_of2 : Df P w K mg base 6 "_law_tree_of" sTreeOf ["_law_purse_here", "_law_names_here", "_law_deep"] (spTreeOf 2)) (D__law_field_in : Df P w K mg base 21 "_law_field_in" sFldIn ["_law_tree"] (spFldIn 20)) (D__law_heats_of : Df P w K mg base 23 "_law_heats_of" sHeatsOf ["_law_rows", "_law_tree"] (spHO K 20)) (D_heats : Df P w K mg base 26 "heats" sHeats ["panel", "tree"] (spHeats C 20)) (D_each_heat : Df P w K mg base 24 "each_heat" sEach ["panel", "tree"] (spEach C 20)) (D_field_of : Df P w K mg base 23 "field_of" sFieldOf ["panel", "tree"] (spFieldOf C 20)) :
    FnOk P w K mg base CX0 27 f fd ["_law_purse_here", "_law_names_here", "_law_rows", "_law_panel_here"] (spKR C) := by
  refine okN F scKR (fun vs H Q E h => ?_) (fun cdv A outer s H vs Q E hr h => ?_)
  · obtain ⟨_, _, _, _, _, _, _, _, rfl, _⟩ := h
    rfl
  · obtain ⟨p, n, R, a, c, xs, as, rs, rfl, hp, hc, hn, lr, pa, k⟩ := h
    have nd := scKR.nd
    have hu := hr.un
    have hu64 : (A.deeper (envOfC "_law_kept_right" (defScope sKR) s.heap.objs.size f cdv)).units + 64 < cLine := by omega
    have r1 : Room 1 (A.deeper (envOfC "_law_kept_right" (defScope sKR) s.heap.objs.size f cdv)) := hr.mono (by decide)
    have r6 : Room 6 (A.deeper (envOfC "_law_kept_right" (defScope sKR) s.heap.objs.size f cdv)) := hr.mono (by decide)
    have r21 : Room 21 (A.deeper (envOfC "_law_kept_right" (defScope sKR) s.heap.objs.size f cdv)) := hr.mono (by decide)
    have r23 : Room 23 (A.deeper (envOfC "_law_kept_right" (defScope sKR) s.heap.objs.size f cdv)) := hr.mono (by decide)
    have r24 : Room 24 (A.deeper (envOfC "_law_kept_right" (defScope sKR) s.heap.objs.size f cdv)) := hr.mono (by decide)
    refine' ⟨_, pss_cons ?b0 (pss_cons ?b1 (pss_cons ?b2 (pss_one (ps_ret (pe_cmpR (op_eqD hu64) (pv 6) (pv 8) (nomark _)))))), ?_⟩
    case b0 => exact (ps_setLc (i := 4) (own := [("_law_turn", 5)]) (g := gName 5) (tt := tYes) (te := (tCall (spTreeOf 2) [] E0 (tCons (tVar 0) (tCons (tVar 1) (tCons (tC (.int 2)) tNil))))) (by rfl) nd rfl rfl (sw_true rfl rfl rfl (by decide +kernel)) (pi_range1 (by rfl) L.range (pa_cons pe_int pa_nil))
        (blkOk_by (N := nKR) (sc := (defScope sKR)) (by decide +kernel)) (fun _ _ _ _ _ => (pg_name (i := 5) scKR.nd rfl (Or.inl rfl))) (fun _ _ _ _ _ => pts_nil) (fun _ _ _ _ _ => (pe_df D__law_tree_of2 r6 (by rfl) (pa_cons (pv 0) (pa_cons (pv 1) (pa_cons pe_int pa_nil))))))
    case b1 => exact (ps_setLc (i := 6) (own := [("_law_one", 7)]) (g := gName 7) (tt := tYes) (te := (tLst (tCons (tCall (spHeats C 20) [] E0 (tCons (tVar 3) (tCons (tVar 7) tNil))) (tCons (tCall (spFieldOf C 20) [] E0 (tCons (tVar 3) (tCons (tVar 7) tNil))) (tCons (tCall (spEach C 20) [] E0 (tCons (tVar 3) (tCons (tVar 7) tNil))) tNil))))) (by rfl) nd rfl rfl (sw_true rfl rfl rfl (by decide +kernel)) (pi_list (pv 4))
        (blkOk_by (N := nKR) (sc := (defScope sKR)) (by decide +kernel)) (fun _ _ _ _ _ => (pg_name (i := 7) scKR.nd rfl (Or.inl rfl))) (fun _ _ _ _ _ => pts_nil) (fun _ _ _ _ _ => (pe_lst (pa_cons (pe_df D_heats hr (by rfl) (pa_cons (pv 3) (pa_cons (pv 7) pa_nil))) (pa_cons (pe_df D_field_of r23 (by rfl) (pa_cons (pv 3) (pa_cons (pv 7) pa_nil))) (pa_cons (pe_df D_each_heat r24 (by rfl) (pa_cons (pv 3) (pa_cons (pv 7) pa_nil))) pa_nil))))))
    case b2 => exact (ps_setLc (i := 8) (own := [("_law_one", 7)]) (g := gName 7) (tt := tYes) (te := (tLst (tCons (tCall (spLC K) [] E0 (tCons (tVar 2) (tCons (tCall (spFldIn 20) [] E0 (tCons (tVar 7) tNil)) tNil))) (tCons (tCall (spFldIn 20) [] E0 (tCons (tVar 7) tNil)) (tCons (tCall (spHO K 20) [] E0 (tCons (tVar 2) (tCons (tVar 7) tNil))) tNil))))) (by rfl) nd rfl rfl (sw_true rfl rfl rfl (by decide +kernel)) (pi_list (pv 4))
        (blkOk_by (N := nKR) (sc := (defScope sKR)) (by decide +kernel)) (fun _ _ _ _ _ => (pg_name (i := 7) scKR.nd rfl (Or.inl rfl))) (fun _ _ _ _ _ => pts_nil) (fun _ _ _ _ _ => (pe_lst (pa_cons (pe_df D__law_cards r1 (by rfl) (pa_cons (pv 2) (pa_cons (pe_df D__law_field_in r21 (by rfl) (pa_cons (pv 7) pa_nil)) pa_nil))) (pa_cons (pe_df D__law_field_in r21 (by rfl) (pa_cons (pv 7) pa_nil)) (pa_cons (pe_df D__law_heats_of r23 (by rfl) (pa_cons (pv 2) (pa_cons (pv 7) pa_nil))) pa_nil))))))
    have gd := lr.gd
    have ra : Rw xs rs := gd.rw
    have npn : n ≠ p := ne_purse hn str_no_int hp
    refine ⟨4, rfl, by decide, by decide, fun D nD => lc_range (lo := 0) (n := 4) (fun i H' => ∃ vs : List V, H' D = some (.lst vs) ∧ vs.length = i ∧ (∀ x ∈ vs, ∃ T, TrS (fun b => H b = none ∧ b ≠ D) H' 2 x T ∧ (∀ z ∈ lvs T, z ∈ xs) ∧ (lvs T).length ≤ 9) ∧ Purse H' p (c + 78 * i) ∧ But p H H')
      ⟨[], upd_same, rfl, (fun x hx => nomatch hx), (hp.same (sn nD)).mono (by omega), But.same (sn nD)⟩ ?_ ?_⟩
    · rintro i H' hi ⟨vs, w1, w2, w3, w4, w5⟩
      have nDp : D ≠ p := no_purse hp nD
      refine ⟨rfl, _, rfl, _, rfl, p, n, _, xs, rfl, w4, (by show _ + 78 ≤ 200000; omega), w5 _ _ npn hn, gd.l1, by have := gd.l40; omega, fun x ls H'' tx tsub t1 t9 hp'' b'' => ?_⟩
      have lt9 : ls.length ≤ 9 := t9
      obtain ⟨T, tT, eT⟩ := tx.trP.tree
      refine ⟨vs, b'' _ _ nDp w1, small1000 (by omega), vs ++ [x], upd_same, by rw [List.length_append, w2]; rfl, fun y hy => ?_, ?_, fun b o nb hb => ?_⟩
      · rcases List.mem_append.mp hy with h | h
        · obtain ⟨T', k1, k2, k3⟩ := w3 y h
          refine ⟨T', k1.keep (fun _ h _ => h) fun b o h e => ?_, k2, k3⟩
          rw [upd_ne h.2]
          exact b'' _ _ (no_purse hp h.1) e
        · rw [List.mem_singleton.mp h]
          refine ⟨T, tT.keep (fun b h _ => ⟨new_back w5 w4 h, fun e => by rw [e, w1] at h; cases h⟩) fun b o h e => ?_, by rw [eT]; exact tsub, by rw [eT]; exact lt9⟩
          rw [upd_ne (fun q => by rw [q, w1] at h; cases h)]
          exact e
      · obtain ⟨u, e, l⟩ := hp''
        exact ⟨u, by rw [upd_ne (Ne.symm nDp)]; exact e, l.mono (by show _ + 78 ≤ _; omega)⟩
      · rw [upd_ne (fun e => by rw [e, nD] at hb; cases hb)]
        exact b'' _ _ nb (w5 _ _ nb hb)
    rintro H1 ⟨vs, w1, w2, w3, hp1, b1⟩
    obtain ⟨ts, lts, hts⟩ := pick_all w3
    have lr1 := lr.but hp b1
    have pa1 := pa.but hp b1
    have tat : ∀ (i : Nat) (x : V), vs[i]? = some x → ∃ t, ts[i]? = some t ∧ ts.getD i (.leaf "") = t ∧ TrG H1 20 x xs t := fun i x hx => by
      have li := (List.getElem?_eq_some_iff.mp hx).1
      obtain ⟨t, ht⟩ : ∃ t, ts[i]? = some t := ⟨_, List.getElem?_eq_getElem (by omega)⟩
      obtain ⟨k1, k2, k3⟩ := hts i x t hx ht
      exact ⟨t, ht, by rw [List.getD_eq_getElem?_getD, ht]; rfl, TrS.up (by decide) k1.any, k2, by omega⟩
    have l4 : vs.length ≤ 60 := by omega
    refine ⟨_, rfl, D, rfl, ⟨_, SqL.of w1⟩, fun D2 nD2 => ld_list (f := fun i => askD xs rs (ts.getD i (.leaf ""))) (SqL.of w1) l4 nD2 (fun _ => rfl) (fun i x H' Qk hx s' hacc kk => ?_) fun H2 s2 d2 => ?_⟩
    · obtain ⟨t, ht, et, tg⟩ := tat i x hx
      refine ⟨_, rfl, _, rfl, a, x, xs, lvs t, rs, rfl, pa1.same s', ra, (tg.same s').f, fun A1 H4 s4 nA1 hA1 => ?_⟩
      refine ⟨_, rfl, _, rfl, a, x, xs, lvs t, rs, rfl, pa1.same (s'.trans s4), ra, (tg.same (s'.trans s4)).f, fun A2 H5 s5 nA2 hA2 => ?_⟩
      have s45 := s4.trans s5
      refine ⟨_, rfl, _, rfl, a, x, xs, rs, t, rfl, pa1.same (s'.trans s45), ra, tg.same (s'.trans s45), fun A3 us H6 s6 nA3 hA3 tb => ⟨(show 3 ≤ sizeLine by decide), fun Lg nLg => ?_⟩⟩
      have s46 := s45.trans s6
      have sL := sn nLg (o := .lst [.ref A1, .ref A2, .ref A3])
      have hL := upd_same (H := H6) (a := Lg) (o := .lst [.ref A1, .ref A2, .ref A3])
      generalize upd H6 Lg (.lst [.ref A1, .ref A2, .ref A3]) = H7 at sL hL ⊢
      refine kk (.ref Lg) H7 (newH H' H7) (s46.trans sL) new_sub (new_none (by obtain ⟨acc, e⟩ := hacc; rw [e]; simp)) ?_
      show Dp K (newH H' H7) (.ref Lg) (askD xs rs (ts.getD i (.leaf "")))
      rw [et]
      refine .lst (SqL.of ((new_at (s46.free nLg)).trans hL)) (.cons (dp_row ((new_at nA1).trans ((s5.trans (s6.trans sL)) _ _ hA1))) (.cons (dp_row ((new_at (s4.free nA2)).trans ((s6.trans sL) _ _ hA2))) (.cons (TabP.dp (Pd := fun b => H' b = none) ((new_at (s45.free nA3)).trans (sL _ _ hA3)) (tb.keep (fun b h => s45.free h) fun b o h e => (new_at (s45.free h)).trans (sL _ _ e))) .nil)))
    have lr2 := lr1.same s2
    refine ⟨_, rfl, D, rfl, ⟨_, SqL.of (s2 _ _ w1)⟩, fun D3 nD3 => ld_list (f := fun i => askD xs rs (ts.getD i (.leaf ""))) (SqL.of (s2 _ _ w1)) l4 nD3 (fun _ => rfl) (fun i x H' Qk hx s' hacc kk => ?_) fun H3 s3 d3 => ?_⟩
    · obtain ⟨t, ht, et, tg0⟩ := tat i x hx
      have tg := (tg0.same s2).same s'
      have eyq : ∀ {ys : List Str}, sortedS ys = true → ys.Nodup → (∀ z, z ∈ ys ↔ z ∈ lvs t) → ys = fldL xs (lvs t) := fun so nd2 my => sorted_ext so (sorted_filter ra.so) nd2 (ra.nd.sublist List.filter_sublist) fun z => by rw [my z, mem_fld tg.sub]
      refine ⟨_, rfl, _, rfl, x, lvs t, rfl, tg.tr.trP.at_, tg.l60, fun F1 ys1 H4 s4 nF1 hF1 so1 nd1 my1 _ => ?_⟩
      obtain rfl := eyq so1 nd1 my1
      have lr4 := (lr2.same s').same s4
      refine ⟨R, F1, as, rs, _, rfl, lr4.at_, lr4.ra, hF1, lr.r100.1, lr.r100.2, fun ys2 A1 H5 s5 nA1 hA1 so2 nd2 mem2 _ => ?_⟩
      obtain rfl := lc_eq ra.pr ra.so ra.nd so2 nd2 mem2
      have s45 := s4.trans s5
      refine ⟨_, rfl, x, lvs t, rfl, (tg.same s45).tr.trP.at_, tg.l60, fun A2 ys3 H6 s6 nA2 hA2 so3 nd3 my3 _ => ?_⟩
      obtain rfl := eyq so3 nd3 my3
      have s46 := s45.trans s6
      refine ⟨_, rfl, _, rfl, R, x, as, rs, xs, t, rfl, (lr4.same (s5.trans s6)).at_, (lr4.same (s5.trans s6)).ra, ra, tg.same s46, fun A3 us H7 s7 nA3 hA3 tb => ⟨(show 3 ≤ sizeLine by decide), fun Lg nLg => ?_⟩⟩
      have s47 := s46.trans s7
      have sL := sn nLg (o := .lst [.ref A1, .ref A2, .ref A3])
      have hL := upd_same (H := H7) (a := Lg) (o := .lst [.ref A1, .ref A2, .ref A3])
      generalize upd H7 Lg (.lst [.ref A1, .ref A2, .ref A3]) = H8 at sL hL ⊢
      refine kk (.ref Lg) H8 (newH H' H8) (s47.trans sL) new_sub (new_none (by obtain ⟨acc, e⟩ := hacc; rw [e]; simp)) ?_
      show Dp K (newH H' H8) (.ref Lg) (askD xs rs (ts.getD i (.leaf "")))
      rw [et]
      refine .lst (SqL.of ((new_at (s47.free nLg)).trans hL)) (.cons (dp_row ((new_at (s4.free nA1)).trans ((s6.trans (s7.trans sL)) _ _ hA1))) (.cons (dp_row ((new_at (s45.free nA2)).trans ((s7.trans sL) _ _ hA2))) (.cons (TabP.dp (Pd := fun b => H' b = none) ((new_at (s46.free nA3)).trans (sL _ _ hA3)) (tb.keep (fun b h => s46.free h) fun b o h e => (new_at (s46.free h)).trans (sL _ _ e))) .nil)))
    obtain ⟨fw, ff⟩ := fine_all (n := 4) (ds := (List.range vs.length).map fun i => askD xs rs (ts.getD i (.leaf ""))) fun d hd => by
      obtain ⟨i, _, rfl⟩ := List.mem_map.mp hd
      exact ask_fine gd _
    have fl := ff.list
    refine ⟨_, rfl, _, rfl, _, _, dp_sm s3 d2, d3, fl.shaped2 (by decide), fl.shaped2 (by decide), ?_⟩
    rw [eqv_fine fl]
    have s13 := s2.trans s3
    exact k H3 ((hp1.same s13).mono (by omega)) (b1.trans (But.same s13))
end
end K24

set_option maxHeartbeats 16000000
namespace K24
open PySem PySem.Spec PyProof.Rows L2 G1
/-- a list of trees is a tree -/
theorem TrS.up1 {H : Hp} {d : Nat} {D : Addr} {vs : List V} {ts : List PT} (hD : H D = some (.lst vs)) (l1 : 1 ≤ vs.length) (l60 : vs.length ≤ 60) (lt : ts.length = vs.length) (f : ∀ (i : Nat) (x : V) (t : PT), vs[i]? = some x → ts[i]? = some t → TrT H d x t) : TrT H (d + 1) (.ref D) (.node ts) := .inr ⟨D, vs, ts, rfl, trivial, hD, l1, l60, lt, f, rfl⟩
theorem TrS.list1 {H : Hp} {d : Nat} {D : Addr} {v : V} {T : PT} (hD : H D = some (.lst [v])) (h : TrT H d v T) : TrT H (d + 1) (.ref D) (.node [T]) := TrS.up1 hD (by simp) (by simp) rfl fun i x t hx ht => by
  cases i with
  | zero =>
    obtain rfl := Option.some.inj hx
    obtain rfl := Option.some.inj ht
    exact h
  | succ i => simp at hx
theorem TrS.list2 {H : Hp} {d : Nat} {D : Addr} {v u : V} {T U : PT} (hD : H D = some (.lst [v, u])) (h : TrT H d v T) (g : TrT H d u U) : TrT H (d + 1) (.ref D) (.node [T, U]) := TrS.up1 hD (by simp) (by simp) rfl fun i x t hx ht => by
  match i, hx, ht with
  | 0, hx, ht =>
    obtain rfl := Option.some.inj hx
    obtain rfl := Option.some.inj ht
    exact h
  | 1, hx, ht =>
    obtain rfl := Option.some.inj hx
    obtain rfl := Option.some.inj ht
    exact g
  | j + 2, hx, ht => simp at hx
theorem TrS.list3 {H : Hp} {d : Nat} {D : Addr} {v u w : V} {T U W : PT} (hD : H D = some (.lst [v, u, w])) (h : TrT H d v T) (g : TrT H d u U) (k : TrT H d w W) : TrT H (d + 1) (.ref D) (.node [T, U, W]) := TrS.up1 hD (by simp) (by simp) rfl fun i x t hx ht => by
  match i, hx, ht with
  | 0, hx, ht =>
    obtain rfl := Option.some.inj hx
    obtain rfl := Option.some.inj ht
    exact h
  | 1, hx, ht =>
    obtain rfl := Option.some.inj hx
    obtain rfl := Option.some.inj ht
    exact g
  | 2, hx, ht =>
    obtain rfl := Option.some.inj hx
    obtain rfl := Option.some.inj ht
    exact k
  | j + 3, hx, ht => simp at hx
section
variable {P : Program} {w : World} {K : PySem.W.Frag} {mg : Str → Option Value} {base : Heap} {C : Addr}
abbrev sOR : Stmt := top 62
abbrev nOR : List Str := ["_law_purse_here", "_law_names_here", "_law_rows", "_law_panel_here", "_law_inner", "_law_some", "_law_last"]
theorem scOR : FnScope nOR ["_law_purse_here", "_law_names_here", "_law_rows", "_law_panel_here"] (defScope sOR) := ⟨rfl, rfl, rfl, by decide +kernel, rfl, by decide +kernel, by decide +kernel⟩
def spOR (C : Addr) : Sp := fun vs H Q _ => ∃ (p n R a : Addr) (c : Nat) (xs : List Str) (as : List Addr) (rs : List (List Str)), vs = [.ref p, .ref n, .ref R, .ref a] ∧ Purse H p c ∧ c ≤ 100000 ∧ H n = some (.lst (xs.map V.str)) ∧ LR H R xs as rs ∧ PanF H C a xs rs ∧ ∀ H', Purse H' p (c + 5000) → But p H H' → Q (.bl true) H'
theorem ok_oR {f : Addr} {fd : FuncData} (F : FnP K "_law_others_right" sOR f fd) (LP : LibP mg) (D__law_one_of : Df P w K mg base 3 "_law_one_of" sOne ["_law_purse_here", "_law_some"] (spOneW K)) (D__law_tree_right : DfG P w K mg base 27 "_law_tree_right" sTrR ["_law_panel_here", "_law_rows", "_law_tree"] (spTrR C)) (D__law_draw : Df P w K mg base 2 "_law_draw" sDraw ["_law_purse_here", "_law_many"] spDraw) (D__law_rows_of : Df P w K mg base 4 "_law_rows_of" sRows ["_law_purse_here", "_law_names_here", "_law_many"] (spRowsW K)) (D__law_tree_of3 : Df P w K mg base 7 "_law_tree_of" sTreeOf ["_law_purse_here", "_law_names_here", "_law_deep"] (spTreeOf 3)) (D__law_panel : Df P w K mg base 6 "_law_panel" sPanQ ["_law_names_here", "_law_rows"] (spPanR C)) :
    FnG P w K mg base 28 f fd ["_law_purse_here", "_law_names_here", "_law_rows", "_law_panel_here"] (spOR C) := by
  refine gdN F scOR (fun vs H Q E h => ?_) (fun cdv A outer s H vs Q Ex hg hr h => ?_)
  · obtain ⟨_, _, _, _, _, _, _, _, rfl, _⟩ := h
    rfl
  · obtain ⟨p, n, R, a, c, xs, as, rs, rfl, hp, hc, hn, lr, pa, k⟩ := h
    have nd := scOR.nd
    have r2 : Room 2 (A.deeper (envOfC "_law_others_right" (defScope sOR) s.heap.objs.size f cdv)) := hr.mono (by decide)
    have r3 : Room 3 (A.deeper (envOfC "_law_others_right" (defScope sOR) s.heap.objs.size f cdv)) := hr.mono (by decide)
    have r4 : Room 4 (A.deeper (envOfC "_law_others_right" (defScope sOR) s.heap.objs.size f cdv)) := hr.mono (by decide)
    have r6 : Room 6 (A.deeper (envOfC "_law_others_right" (defScope sOR) s.heap.objs.size f cdv)) := hr.mono (by decide)
    have r7 : Room 7 (A.deeper (envOfC "_law_others_right" (defScope sOR) s.heap.objs.size f cdv)) := hr.mono (by decide)
    refine' ⟨_, pss_cons ?b0 (pss_cons ?b1 (pss_cons ?b2 (pss_cons ?b3 (pss_cons (ps_if (pt_val (pe_callB call_isi (by rfl) LP.isi (by decide +kernel) (pa_cons (pv 6) (pa_cons (pe_bltn (v := .ty "list") (by rfl) LP.list (by decide +kernel) rfl) pa_nil)))) (pss_cons ?b4 (pss_one ?b5)) pss_nil) (pss_one (ps_ret pe_bl)))))), ?_⟩
    case b0 => exact (ps_set (i := 4) nd rfl (Or.inl rfl) (pe_lst (pa_cons (pe_df D__law_one_of r3 (by rfl) (pa_cons (pv 0) (pa_cons (pv 1) pa_nil))) pa_nil)))
    case b1 => exact (ps_if (pt_not (pt_val (pe_dfG D__law_tree_right hr hg (by rfl) (pa_cons (pv 3) (pa_cons (pv 2) (pa_cons (pe_lst (pa_cons (pv 4) (pa_cons (pv 4) (pa_cons (pe_lst (pa_cons (pv 4) (pa_cons (pe_ix ix_list (pv 1) pe_int (fun _ _ => rfl)) pa_nil))) pa_nil)))) pa_nil)))))) (pss_one ps_never) pss_nil)
    case b2 => exact (ps_par (i := 5) (j := 6) (by rfl) nd rfl rfl (by decide) rfl rfl (pa_cons (pe_df D__law_rows_of r4 (by rfl) (pa_cons (pv 0) (pa_cons (pv 1) (pa_cons (pe_op op_add pe_int (pe_df D__law_draw r2 (by rfl) (pa_cons (pv 0) (pa_cons pe_int pa_nil)))) pa_nil)))) (pa_cons (pe_df D__law_tree_of3 r7 (by rfl) (pa_cons (pv 0) (pa_cons (pv 1) (pa_cons pe_int pa_nil)))) pa_nil)) (by rfl))
    case b3 => exact (ps_if (PW.pt (pw_or (pt_not (pt_val (pe_dfG D__law_tree_right hr hg (by rfl) (pa_cons (pe_df D__law_panel r6 (by rfl) (pa_cons (pv 1) (pa_cons (pv 5) pa_nil))) (pa_cons (pv 5) (pa_cons (pv 6) pa_nil)))))) (pw_or1 (pt_not (pt_val (pe_dfG D__law_tree_right hr hg (by rfl) (pa_cons (pv 3) (pa_cons (pv 2) (pa_cons (pv 6) pa_nil))))))))) (pss_one ps_never) pss_nil)
    case b4 => exact (ps_expr (pe_bm PySem.F.plainAttrs_list PySem.F.slot_list_append PySem.F.type_list_append mt_append (pv 6) (pa_cons (pe_df D__law_one_of r3 (by rfl) (pa_cons (pv 0) (pa_cons (pv 1) pa_nil))) pa_nil)))
    case b5 => exact (ps_if (pt_not (pt_val (pe_dfG D__law_tree_right hr hg (by rfl) (pa_cons (pv 3) (pa_cons (pv 2) (pa_cons (pv 6) pa_nil)))))) (pss_one ps_never) pss_nil)
    have gd := lr.gd
    have l40 := gd.l40
    have x1 := gd.l1
    have npn : n ≠ p := ne_purse hn str_no_int hp
    refine ⟨_, rfl, _, rfl, p, n, xs.map V.str, c, rfl, hp, by omega, SqL.of hn, npn, by rw [List.length_map]; omega, by rw [List.length_map]; omega, fun x H1 mx hp1 b1 => ⟨(show 1 ≤ sizeLine by decide), fun In nIn => ?_⟩⟩
    obtain ⟨z, mz, rfl⟩ := List.mem_map.mp mx
    have sI := sn nIn (o := .lst [.str z])
    have hI := upd_same (H := H1) (a := In) (o := .lst [.str z])
    generalize upd H1 In (.lst [.str z]) = H2 at sI hI ⊢
    have hp2 := hp1.same sI
    have b02 : But p H H2 := b1.trans (But.same sI)
    have hn2 := b02 _ _ npn hn
    obtain ⟨y, xs', ex⟩ : ∃ y xs', xs = y :: xs' := by
      match xs, x1 with
      | y :: xs', _ => exact ⟨y, xs', rfl⟩
    have my : y ∈ xs := by rw [ex]; exact .head _
    refine ⟨_, rfl, _, rfl, _, rfl, _, rfl, _, rfl, _, rfl, n, _, _, .str y, rfl, rfl, SqL.of hn2, (show atI (xs.map V.str) 0 = some (.str y) by rw [ex]; exact atI_nat (j := 0) rfl), (show 2 ≤ sizeLine by decide), fun B1 nB1 => ?_⟩
    have sB1 := sn nB1 (o := .lst [.ref In, .str y])
    have hB1 := upd_same (H := H2) (a := B1) (o := .lst [.ref In, .str y])
    generalize upd H2 B1 (.lst [.ref In, .str y]) = H3 at sB1 hB1 ⊢
    refine ⟨(show 3 ≤ sizeLine by decide), fun B2 nB2 => ?_⟩
    have sB2 := sn nB2 (o := .lst [.ref In, .ref In, .ref B1])
    have hB2 := upd_same (H := H3) (a := B2) (o := .lst [.ref In, .ref In, .ref B1])
    generalize upd H3 B2 (.lst [.ref In, .ref In, .ref B1]) = H4 at sB2 hB2 ⊢
    have s24 := sB1.trans sB2
    have hp4 := hp2.same s24
    have b04 := b02.trans (But.same s24)
    have tI : TrT H4 1 (.ref In) (.node [.leaf z]) := TrS.list1 (s24 _ _ hI) (d := 0) TrS.leaf
    have tB1 : TrT H4 2 (.ref B1) (.node [.node [.leaf z], .leaf y]) := TrS.list2 (sB2 _ _ hB1) tI TrS.leaf
    have tB2 : TrT H4 3 (.ref B2) (.node [.node [.leaf z], .node [.leaf z], .node [.node [.leaf z], .leaf y]]) := TrS.list3 hB2 (TrS.up (by decide) tI) (TrS.up (by decide) tI) tB1
    have e0 : lvs (.node [.node [.leaf z], .node [.leaf z], .node [.node [.leaf z], .leaf y]]) = [z, z, z, y] := by simp [lvs, lvsL]
    have tg : TrG H4 20 (.ref B2) xs (.node [.node [.leaf z], .node [.leaf z], .node [.node [.leaf z], .leaf y]]) := ⟨TrS.up (by decide) tB2, fun q hq => by
      rw [e0] at hq
      simp only [List.mem_cons, List.not_mem_nil, or_false] at hq
      rcases hq with rfl | rfl | rfl | rfl <;> assumption, by rw [e0]; simp⟩
    refine ⟨a, R, .ref B2, xs, as, rs, _, rfl, pa.but hp b04, lr.but hp b04, tg, fun H5 s5 => ⟨_, rfl, iteF ?_⟩⟩
    have hp5 := hp4.same s5
    have b05 := b04.trans (But.same s5)
    have hn5 := b05 _ _ npn hn
    refine ⟨_, rfl, _, rfl, _, rfl, p, 3, _, rfl, by decide, by decide, hp5, by omega, fun q H6 q0 q1 hp6 b6 => ⟨_, _, rfl, rfl, p, n, 1 + q, _, xs, rfl, by omega, by omega, hp6, by omega, SqL.of (b6 _ _ npn hn5), npn, gd.nd, gd.l1, by omega, fun M ms us H7 hM nM hms ncm hlm hmp hp7 b7 => ?_⟩⟩
    have lM : LR H7 M xs ms us := ⟨hM, hms, gd.nm, gd.nd, gd.l1, gd.l40, gd.so, hmp, by omega, by omega⟩
    have b07 := b05.trans (b6.trans b7)
    have hn7 := b07 _ _ npn hn
    refine ⟨_, rfl, _, rfl, p, n, _, xs, rfl, hp7, (by show _ + 240 ≤ 200000; omega), hn7, gd.l1, by omega, fun v ls H8 tp tsub tl1 tl27 hp8 b8 => ⟨_, _, rfl, ?_⟩⟩
    have tl27' : ls.length ≤ 27 := tl27
    have hp8 := hp8.mono (show _ + costT 3 ≤ c + 4300 by show _ + 240 ≤ _; omega)
    obtain ⟨T, tT, eT, root⟩ := tp.tree
    have b08 := b07.trans b8
    have hn8 := b08 _ _ npn hn
    have lM8 := lM.but hp7 b8
    have tg8 : TrG H8 20 v xs T := ⟨TrS.up (by decide) tT.any, by rw [eT]; exact tsub, by rw [eT]; omega⟩
    refine ⟨_, rfl, _, rfl, n, M, xs, xs, ms, us, rfl, hn8, .refl _, lM8, fun PN H9 s9 nPN pf => ?_⟩
    refine ⟨_, rfl, _, rfl, PN, M, v, xs, ms, us, T, rfl, pf.same new_sub, lM8.same s9, tg8.same s9, fun H10 s10 => ⟨_, rfl, iteF ?_⟩⟩
    have s810 := s9.trans s10
    have b010 := b08.trans (But.same s810)
    refine ⟨_, rfl, _, rfl, _, rfl, a, R, v, xs, as, rs, T, rfl, pa.but hp b010, lr.but hp b010, tg8.same s810, fun H11 s11 => ⟨_, rfl, iteF ?_⟩⟩
    have s811 := s810.trans s11
    have b011 := b08.trans (But.same s811)
    have hp11 := hp8.same s811
    have hn11 := b011 _ _ npn hn
    rcases root with ⟨z1, rfl⟩ | ⟨g, vs, ts, rfl, rfl, ng, hg8, lts, v1, kids⟩
    · refine ⟨_, rfl, .str z1, .ty "list", .type "str", .type "list", false, rfl, .ty _, .base (.str z1), kit_ty (by decide +kernel), _, rfl, iteF ?_⟩
      exact k H11 (hp11.mono (by omega)) b011
    · have hg11 := s811 _ _ hg8
      refine ⟨_, rfl, .ref g, .ty "list", .type "list", .type "list", true, rfl, .ty _, .base (.lst hg11), kit_ty (by decide +kernel), _, rfl, iteT ?_⟩
      have ngp : g ≠ p := no_purse hp7 ng
      have lk : ts.length ≤ (lvsL ts).length := kids_le fun t ht => by
        obtain ⟨i, hi⟩ := List.mem_iff_getElem?.mp ht
        obtain ⟨x, hx⟩ : ∃ x, vs[i]? = some x := ⟨_, List.getElem?_eq_getElem (by have := (List.getElem?_eq_some_iff.mp hi).1; omega)⟩
        exact (kids i x t hx hi).l1
      rw [lvs] at eT
      rw [eT] at lk
      refine ⟨_, rfl, .inl ⟨rfl, _, SqL.of hg11⟩, _, rfl, _, rfl, p, n, xs.map V.str, _, rfl, hp11, by omega, SqL.of hn11, npn, by rw [List.length_map]; omega, by rw [List.length_map]; omega, fun x H12 mx2 hp12 b12 => ?_⟩
      obtain ⟨z2, mz2, rfl⟩ := List.mem_map.mp mx2
      have hg12 := b12 _ _ ngp hg11
      refine ⟨g, vs, .str z2, rfl, rfl, hg12, by rw [sizeLine_eq]; omega, ?_⟩
      have nH7 : H7 g = none := ng
      have b712 : But p H7 H12 := b8.trans ((But.same s811).trans b12)
      have b713 : But p H7 (upd H12 g (.lst (vs ++ [.str z2]))) := fun b o nb e => by
        rw [upd_ne (fun q => by rw [q, nH7] at e; cases e)]
        exact b712 _ _ nb e
      have hp13 : Purse (upd H12 g (.lst (vs ++ [.str z2]))) p (c + 5000) := by
        obtain ⟨u, e, l⟩ := hp12
        exact ⟨u, by rw [upd_ne (Ne.symm ngp)]; exact e, l.mono (by omega)⟩
      have b013 := b07.trans b713
      have kid13 : ∀ (i : Nat) (x : V) (t : PT), vs[i]? = some x → ts[i]? = some t → TrT (upd H12 g (.lst (vs ++ [.str z2]))) 2 x t := fun i x t hx ht => by
        refine ((kids i x t hx ht).keep (Pd' := fun _ => True) (fun _ _ _ => trivial) fun b o h e => ?_)
        rw [upd_ne h.2]
        exact b12 _ _ (no_purse hp7 h.1) (s811 _ _ e)
      have hg13 : upd H12 g (.lst (vs ++ [.str z2])) g = some (.lst (vs ++ [.str z2])) := upd_same
      generalize upd H12 g (.lst (vs ++ [.str z2])) = H13 at b713 hp13 b013 kid13 hg13 ⊢
      have t13 : TrT H13 3 (.ref g) (.node (ts ++ [.leaf z2])) := TrS.up1 hg13 (by rw [List.length_append]; omega) (by rw [List.length_append, List.length_singleton]; omega) (by rw [List.length_append, List.length_append, lts]; rfl) fun i x t hx ht => by
        by_cases e : i < vs.length
        · rw [List.getElem?_append_left e] at hx
          rw [List.getElem?_append_left (by omega)] at ht
          exact kid13 i x t hx ht
        · have e2 : i = vs.length := by
            have := (List.getElem?_eq_some_iff.mp hx).1
            rw [List.length_append, List.length_singleton] at this
            omega
          subst e2
          rw [List.getElem?_append_right (by omega), Nat.sub_self] at hx
          rw [List.getElem?_append_right (by omega), lts, Nat.sub_self] at ht
          obtain rfl := Option.some.inj hx
          obtain rfl := Option.some.inj ht
          exact TrS.leaf
      have e13 : lvs (.node (ts ++ [.leaf z2])) = ls ++ [z2] := by
        rw [lvs, lvsL_eq, List.map_append, List.flatten_append, ← lvsL_eq, eT]
        simp [lvs]
      have tg13 : TrG H13 20 (.ref g) xs (.node (ts ++ [.leaf z2])) := ⟨TrS.up (by decide) t13, fun q hq => by
        rw [e13] at hq
        rcases List.mem_append.mp hq with h | h
        · exact tsub q h
        · rw [List.mem_singleton.mp h]
          exact mz2, by rw [e13, List.length_append, List.length_singleton]; omega⟩
      refine ⟨_, rfl, _, rfl, _, rfl, a, R, .ref g, xs, as, rs, _, rfl, pa.but hp b013, lr.but hp b013, tg13, fun H14 s14 => ⟨_, rfl, iteF ?_⟩⟩
      exact k H14 (hp13.same s14) (b013.trans (But.same s14))
end
end K24

set_option maxHeartbeats 16000000
namespace K24
open PySem PySem.Spec PyProof.Rows L2 G1
theorem fld_eq {xs ls ks : List Str} (h : ∀ z, z ∈ ls ↔ z ∈ ks) : fldL xs ls = fldL xs ks := List.filter_congr fun z _ => by rw [decide_eq_decide]; exact h z
theorem TrG.l1 {H : Hp} {d : Nat} {D : Addr} {v : V} {xs : List Str} {T : PT} (hD : H D = some (.lst [v])) (h : TrG H d v xs T) : TrG H (d + 1) (.ref D) xs (.node [T]) := ⟨TrS.list1 hD h.tr, by
  have e : lvs (.node [T]) = lvs T := by simp [lvs, lvsL]
  rw [e]; exact h.sub, by
  have e : lvs (.node [T]) = lvs T := by simp [lvs, lvsL]
  rw [e]; exact h.l60⟩
theorem TrG.keep {H H' : Hp} {d : Nat} {v : V} {xs : List Str} {T : PT} {Pd : Addr → Prop} (h : TrS Pd H d v T) (k : ∀ b o, Pd b → H b = some o → H' b = some o) (sub : ∀ z ∈ lvs T, z ∈ xs) (l : (lvs T).length ≤ 60) : TrG H' d v xs T := ⟨h.keep (fun _ _ _ => trivial) k, sub, l⟩
theorem lvs_one {T : PT} : lvs (.node [T]) = lvs T := by simp [lvs, lvsL]
def spLaw (K : PySem.W.Frag) : Sp := fun vs H Q _ => ∃ (a : Addr) (ns : List Int), vs = [.ref a] ∧ SqL K H a (ns.map V.int) ∧ ∀ H', Q (.bl true) H'
section
variable {P : Program} {w : World} {K : PySem.W.Frag} {mg : Str → Option Value} {base : Heap} {C : Addr}
abbrev sLaw : Stmt := top 63
abbrev nLaw : List Str := ["_law_script", "_law_purse_here", "_law_names_here", "_law_rows", "_law_panel_here", "_law_other", "_law_turn", "_law_tree", "_law_field", "_law_second", "_law_many", "_law_one"]
theorem scLaw : FnScope nLaw ["_law_script"] (defScope sLaw) := ⟨rfl, rfl, rfl, by decide +kernel, rfl, by decide +kernel, by decide +kernel⟩
theorem ok_law {f : Addr} {fd : FuncData} (F : FnP K "law" sLaw f fd) (L : Lib K mg) (D__law_purses : Df P w K mg base 2 "_law_purses" sPurses ["_law_script", "_law_few"] (spPursesS K)) (D__law_drawn : Df P w K mg base 5 "_law_drawn" sDr2 ["_law_purse_here", "_law_most", "_law_stewards"] spDr2) (D__law_panel : Df P w K mg base 6 "_law_panel" sPanQ ["_law_names_here", "_law_rows"] (spPanR C)) (D__law_tree_of3 : Df P w K mg base 7 "_law_tree_of" sTreeOf ["_law_purse_here", "_law_names_here", "_law_deep"] (spTreeOf 3)) (D__law_tree_of1 : Df P w K mg base 5 "_law_tree_of" sTreeOf ["_law_purse_here", "_law_names_here", "_law_deep"] (spTreeOf 1)) (D__law_field_in : Df P w K mg base 21 "_law_field_in" sFldIn ["_law_tree"] (spFldIn 20)) (D__law_tree_on5 : Df P w K mg base 9 "_law_tree_on" sTreeOn ["_law_purse_here", "_law_field"] (spOn 5)) (D_heats : Df P w K mg base 26 "heats" sHeats ["panel", "tree"] (spHeats C 20)) (D__law_tree_right : DfG P w K mg base 27 "_law_tree_right" sTrR ["_law_panel_here", "_law_rows", "_law_tree"] (spTrR C)) (D__law_kept_right : Df P w K mg base 27 "_law_kept_right" sKR ["_law_purse_here", "_law_names_here", "_law_rows", "_law_panel_here"] (spKR C)) (D__law_draw : Df P w K mg base 2 "_law_draw" sDraw ["_law_purse_here", "_law_many"] spDraw) (D__law_shuffled : Df P w K mg base 3 "_law_shuffled" sShuf ["_law_purse_here", "_law_some"] (spShuf K)) (D__law_wide_right : DfG P w K mg base 28 "_law_wide_right" sWR ["_law_purse_here"] spWR) (D__law_others_right : DfG P w K mg base 28 "_law_others_right" sOR ["_law_purse_here", "_law_names_here", "_law_rows", "_law_panel_here"] (spOR C)) (D__law_stays : Df P w K mg base 6 "_law_stays" sStays ["_law_panel_here", "_law_names_here", "_law_rows"] (spStays C)) :
    FnG P w K mg base 29 f fd ["_law_script"] (spLaw K) := by
  refine gdN F scLaw (fun vs H Q E h => ?_) (fun cdv A outer s H vs Q Ex hg hr h => ?_)
  · obtain ⟨_, _, rfl, _⟩ := h
    rfl
  · obtain ⟨a, ns, rfl, hS, k⟩ := h
    have nd := scLaw.nd
    have hu := hr.un
    have hu1 : (A.deeper (envOfC "law" (defScope sLaw) s.heap.objs.size f cdv)).units + (0 + 1) < cLine := by omega
    have r2 : Room 2 (A.deeper (envOfC "law" (defScope sLaw) s.heap.objs.size f cdv)) := hr.mono (by decide)
    have r3 : Room 3 (A.deeper (envOfC "law" (defScope sLaw) s.heap.objs.size f cdv)) := hr.mono (by decide)
    have r5 : Room 5 (A.deeper (envOfC "law" (defScope sLaw) s.heap.objs.size f cdv)) := hr.mono (by decide)
    have r6 : Room 6 (A.deeper (envOfC "law" (defScope sLaw) s.heap.objs.size f cdv)) := hr.mono (by decide)
    have r7 : Room 7 (A.deeper (envOfC "law" (defScope sLaw) s.heap.objs.size f cdv)) := hr.mono (by decide)
    have r9 : Room 9 (A.deeper (envOfC "law" (defScope sLaw) s.heap.objs.size f cdv)) := hr.mono (by decide)
    have r21 : Room 21 (A.deeper (envOfC "law" (defScope sLaw) s.heap.objs.size f cdv)) := hr.mono (by decide)
    have r26 : Room 26 (A.deeper (envOfC "law" (defScope sLaw) s.heap.objs.size f cdv)) := hr.mono (by decide)
    have r27 : Room 27 (A.deeper (envOfC "law" (defScope sLaw) s.heap.objs.size f cdv)) := hr.mono (by decide)
    refine' ⟨_, pss_cons (ps_for PassesOwn.never rfl (pi_list (pe_df D__law_purses r2 (by rfl) (pa_cons (pv 0) (pa_cons pe_int pa_nil)))) (pg_name (i := 1) nd rfl (Or.inr rfl)) (pss_cons ?b0 (pss_cons ?b1 (pss_cons (ps_for PassesOwn.never rfl (pi_range1 (by rfl) L.range (pa_cons pe_int pa_nil)) (pg_name (i := 6) nd rfl (Or.inl rfl)) (pss_cons ?b2 (pss_cons ?b3 (pss_cons ?b4 (pss_cons ?b5 (pss_cons ?b6 (pss_cons ?b7 (pss_cons ?b8 (pss_one ?b9))))))))) (pss_cons ?b10 (pss_cons ?b11 (pss_cons ?b12 (pss_cons ?b13 (pss_one ?b14))))))))) (pss_one (ps_ret pe_bl)), ?_⟩
    case b0 => exact (ps_asg (pe_df D__law_drawn r5 (by rfl) (pa_cons (pv 1) (pa_cons pe_int (pa_cons pe_int pa_nil)))) (pg_unl (n := 2) (by rfl) (pgs_cons (pg_name (i := 2) nd rfl (Or.inr rfl)) (pgs_cons (pg_name (i := 3) nd rfl (Or.inl rfl)) pgs_nil))))
    case b1 => exact (ps_par (i := 4) (j := 5) (by rfl) nd rfl rfl (by decide) rfl rfl (pa_cons (pe_df D__law_panel r6 (by rfl) (pa_cons (pv 2) (pa_cons (pv 3) pa_nil))) (pa_cons (pe_df D__law_panel r6 (by rfl) (pa_cons (pe_revL (pv 2)) (pa_cons (pv 3) pa_nil))) pa_nil)) (by rfl))
    case b2 => exact (ps_set (i := 7) nd rfl (Or.inl rfl) (pe_df D__law_tree_of3 r7 (by rfl) (pa_cons (pv 1) (pa_cons (pv 2) (pa_cons pe_int pa_nil)))))
    case b3 => exact (ps_if (pt_not (pt_val (pe_dfG D__law_tree_right r27 hg (by rfl) (pa_cons (pv 4) (pa_cons (pv 3) (pa_cons (pv 7) pa_nil)))))) (pss_one ps_never) pss_nil)
    case b4 => exact (ps_set (i := 8) nd rfl (Or.inl rfl) (pe_df D__law_field_in r21 (by rfl) (pa_cons (pv 7) pa_nil)))
    case b5 => exact (ps_set (i := 9) nd rfl (Or.inl rfl) (pe_df D__law_tree_on5 r9 (by rfl) (pa_cons (pv 1) (pa_cons (pv 8) pa_nil))))
    case b6 => exact (ps_if (PW.pt (pw_or (pt_not (pt_val (pe_dfG D__law_tree_right r27 hg (by rfl) (pa_cons (pv 5) (pa_cons (pv 3) (pa_cons (pv 9) pa_nil)))))) (pw_or1 (pt_cmpR (op_neW (n := 0) hu1) (pe_df D_heats r26 (by rfl) (pa_cons (pv 4) (pa_cons (pv 9) pa_nil))) (pe_df D_heats r26 (by rfl) (pa_cons (pv 4) (pa_cons (pv 7) pa_nil))) (by rfl))))) (pss_one ps_never) pss_nil)
    case b7 => exact (ps_if (PW.pt (pw_or (pt_cmpR (op_neW (n := 0) hu1) (pe_df D_heats r26 (by rfl) (pa_cons (pv 4) (pa_cons (pe_lst (pa_cons (pv 7) (pa_cons (pv 9) pa_nil))) pa_nil))) (pe_df D_heats r26 (by rfl) (pa_cons (pv 4) (pa_cons (pv 9) pa_nil))) (by rfl)) (pw_or1 (pt_cmpR (op_neW (n := 0) hu1) (pe_df D_heats r26 (by rfl) (pa_cons (pv 4) (pa_cons (pe_lst (pa_cons (pv 7) pa_nil)) pa_nil))) (pe_df D_heats r26 (by rfl) (pa_cons (pv 5) (pa_cons (pv 7) pa_nil))) (by rfl))))) (pss_one ps_never) pss_nil)
    case b8 => exact (ps_setLc (i := 10) (own := [("_law_one", 11)]) (g := gName 11) (tt := tYes) (te := (tCall (spTreeOf 1) [] E0 (tCons (tVar 1) (tCons (tVar 2) (tCons (tC (.int 1)) tNil))))) (by rfl) nd rfl rfl (sw_true rfl rfl rfl (by decide +kernel)) (pi_range1 (by rfl) L.range (pa_cons (pe_op op_add pe_int (pe_df D__law_draw r2 (by rfl) (pa_cons (pv 1) (pa_cons pe_int pa_nil)))) pa_nil))
        (blkOk_by (N := nLaw) (sc := (defScope sLaw)) (by decide +kernel)) (fun _ _ _ _ _ => (pg_name (i := 11) scLaw.nd rfl (Or.inl rfl))) (fun _ _ _ _ _ => pts_nil) (fun _ _ _ _ _ => (pe_df D__law_tree_of1 r5 (by rfl) (pa_cons (pv 1) (pa_cons (pv 2) (pa_cons pe_int pa_nil))))))
    case b9 => exact (ps_if (PW.pt (pw_or (pt_not (pt_val (pe_dfG D__law_tree_right r27 hg (by rfl) (pa_cons (pv 4) (pa_cons (pv 3) (pa_cons (pe_lst (pa_cons (pe_lst (pa_cons (pe_lst (pa_cons (pe_lst (pa_cons (pe_lst (pa_cons (pe_lst (pa_cons (pe_lst (pa_cons (pv 7) pa_nil)) pa_nil)) pa_nil)) pa_nil)) pa_nil)) pa_nil)) pa_nil)) pa_nil)))))) (pw_or1 (pt_not (pt_val (pe_dfG D__law_tree_right r27 hg (by rfl) (pa_cons (pv 4) (pa_cons (pv 3) (pa_cons (pv 10) pa_nil))))))))) (pss_one ps_never) pss_nil)
    case b10 => exact (ps_if (pt_not (pt_val (pe_df D__law_kept_right r27 (by rfl) (pa_cons (pv 1) (pa_cons (pv 2) (pa_cons (pv 3) (pa_cons (pv 4) pa_nil))))))) (pss_one ps_never) pss_nil)
    case b11 => exact (ps_if (pt_not (pt_val (pe_dfG D__law_tree_right r27 hg (by rfl) (pa_cons (pv 4) (pa_cons (pv 3) (pa_cons (pe_op op_rep (pe_df D__law_shuffled r3 (by rfl) (pa_cons (pv 1) (pa_cons (pv 2) pa_nil))) (pe_op op_fdiv pe_int (pe_callB call_len_seq (by rfl) L.len PySem.boot_len (pa_cons (pv 2) pa_nil)))) pa_nil)))))) (pss_one ps_never) pss_nil)
    case b12 => exact (ps_if (PW.pt (pw_and (pt_cmpR op_eq (pe_df D__law_draw r2 (by rfl) (pa_cons (pv 1) (pa_cons pe_int pa_nil))) pe_int (nomark _)) (pw_and1 (pt_not (pt_val (pe_dfG D__law_wide_right hr hg (by rfl) (pa_cons (pv 1) pa_nil))))))) (pss_one ps_never) pss_nil)
    case b13 => exact (ps_if (pt_not (pt_val (pe_dfG D__law_others_right hr hg (by rfl) (pa_cons (pv 1) (pa_cons (pv 2) (pa_cons (pv 3) (pa_cons (pv 4) pa_nil))))))) (pss_one ps_never) pss_nil)
    case b14 => exact (ps_if (PW.pt (pw_or (pt_not (pt_val (pe_df D__law_stays r6 (by rfl) (pa_cons (pv 4) (pa_cons (pv 2) (pa_cons (pv 3) pa_nil)))))) (pw_or1 (pt_not (pt_val (pe_df D__law_stays r6 (by rfl) (pa_cons (pv 5) (pa_cons (pv 2) (pa_cons (pv 3) pa_nil))))))))) (pss_one ps_never) pss_nil)
    refine ⟨_, rfl, a, 2, ns, rfl, hS, by decide, fun D2 ps H1 nD hD hps lps s1 => ?_⟩
    have lp2 : ps.length ≤ 2 := by omega
    refine ⟨D2, rfl, ⟨_, SqL.of hD⟩, for_list (K := K) (a := D2) (xs := ps.map V.ref) (fun i σ H' => ∃ o1 o2 o3 o4 o5 o6 o7 o8 o9 o10 o11 : Option V, σ = [some (.ref a), o1, o2, o3, o4, o5, o6, o7, o8, o9, o10, o11] ∧ H' D2 = some (.lst (ps.map V.ref)) ∧ ∀ p ∈ ps, Purse H' p (30000 * i) ∧ p ≠ D2)
      ⟨none, none, none, none, none, none, none, none, none, none, none, rfl, hD, fun p hp => ⟨(hps p hp).1, (ne_purse hD ref_no_int (hps p hp).1).symm⟩⟩ (fun i σ H' _ h => by obtain ⟨_, _, _, _, _, _, _, _, _, _, _, _, h, _⟩ := h; exact SqL.of h) ?_ ?_⟩
    · rintro i y σ H2 hi ⟨o1, o2, o3, o4, o5, o6, o7, o8, o9, o10, o11, rfl, hD2, hp2⟩
      have hi1 : i < ps.length := by
        have := (List.getElem?_eq_some_iff.mp hi).1
        rw [List.length_map] at this
        exact this
      rw [List.getElem?_map] at hi
      obtain ⟨p, hpm', rfl⟩ := Option.map_eq_some_iff.mp hi
      have hpm := List.mem_of_getElem? hpm'
      obtain ⟨hpp, npD⟩ := hp2 p hpm
      obtain ⟨c, hc⟩ : ∃ c, c = 30000 * i := ⟨_, rfl⟩
      rw [← hc] at hpp
      have hc3 : c ≤ 30000 := by omega
      refine ⟨_, rfl, p, 6, 4, c, rfl, by decide, by decide, by decide, by decide, hpp, by omega, fun T0 n R xs as rs H3 nT0 nn nR hT0 hn lr x6 lrs hp3 b3 => ⟨T0, _, rfl, SqL.of hT0, rfl, _, _, rfl, _, _, rfl, rfl, ?_⟩⟩
      have gd := lr.gd
      have ra : Rw xs rs := gd.rw
      have x1 := gd.l1
      have npn : n ≠ p := ne_purse hn str_no_int hp3
      refine ⟨_, rfl, _, rfl, n, R, xs, xs, as, rs, rfl, hn, .refl _, lr, fun PA H4 s4 nPA pfA => ?_⟩
      have pA4 := pfA.same new_sub
      refine ⟨_, rfl, n, _, rfl, SqL.of (s4 _ _ hn), fun RV nRV => ?_⟩
      rw [← List.map_reverse]
      have sV := sn nRV (o := .lst (xs.reverse.map V.str))
      have hV := upd_same (H := H4) (a := RV) (o := .lst (xs.reverse.map V.str))
      generalize upd H4 RV (.lst (xs.reverse.map V.str)) = H5 at sV hV ⊢
      have s35 := s4.trans sV
      refine ⟨_, rfl, RV, R, xs, xs.reverse, as, rs, rfl, hV, (List.reverse_perm xs).symm, lr.same s35, fun PB H6 s6 nPB pfB => ⟨_, _, rfl, ?_⟩⟩
      have s36 := s35.trans s6
      have pB6 := pfB.same new_sub
      have pA6 := pA4.same (sV.trans s6)
      have lr6 := lr.same s36
      have hn6 := s36 _ _ hn
      have hp6 := hp3.same s36
      have b26 : But p H2 H6 := b3.trans (But.same s36)
      refine ⟨3, rfl, by decide, by decide, for_range (lo := 0) (n := 3) (fun i σ H' => ∃ o6 o7 o8 o9 o10 : Option V, σ = [some (.ref a), some (.ref p), some (.ref n), some (.ref R), some (.ref PA), some (.ref PB), o6, o7, o8, o9, o10, o11] ∧ Purse H' p (c + 4200 + 800 * i) ∧ But p H6 H') ⟨_, _, _, _, _, rfl, hp6.mono (by omega), But.refl _ _⟩ ?_ ?_⟩
      · rintro i σ H' hi ⟨o6, o7, o8, o9, o10, rfl, w1, w2⟩
        have hn' := w2 _ _ npn hn6
        refine ⟨_, rfl, _, rfl, p, n, _, xs, rfl, w1, (by show _ + 240 ≤ 200000; omega), hn', gd.l1, by omega, fun v lf H7 tp tsub tl1 tl27 hp7 b7 => ?_⟩
        have tl27' : lf.length ≤ 27 := tl27
        have hp7 := hp7.mono (show _ + costT 3 ≤ c + 4200 + 800 * i + 240 by show _ + 240 ≤ _; omega)
        obtain ⟨T, tT, eT⟩ := tp.trP.tree
        have Tsub : ∀ z ∈ lvs T, z ∈ xs := by rw [eT]; exact tsub
        have T60 : (lvs T).length ≤ 27 := by rw [eT]; exact tl27'
        have tg7 : TrG H7 3 v xs T := ⟨tT.any, Tsub, by omega⟩
        have b67 := w2.trans b7
        have pA7 := pA6.but hp6 b67
        have lr7 := lr6.but hp6 b67
        refine ⟨_, rfl, _, rfl, _, rfl, PA, R, v, xs, as, rs, T, rfl, pA7, lr7, tg7.up (by decide), fun H8 s8 => ⟨_, rfl, iteF ?_⟩⟩
        have tg8 := tg7.same s8
        refine ⟨_, rfl, v, lvs T, rfl, (tg8.up (show 3 ≤ 20 by decide)).tr.trP.at_, tg8.l60, fun Fd ys H9 s9 nF hF so nd2 my _ => ?_⟩
        have ey : ys = fldL xs (lvs T) := by
          refine sorted_ext so (sorted_filter ra.so) nd2 (ra.nd.sublist List.filter_sublist) fun z => ?_
          rw [my z, mem_fld Tsub]
        subst ey
        have s79 := s8.trans s9
        have hp9 := hp7.same s79
        have b69 := b67.trans (But.same s79)
        have fx : (fldL xs (lvs T)).length ≤ xs.length := List.length_filter_le _ _
        have f1 : 1 ≤ (fldL xs (lvs T)).length := by
          obtain ⟨z, hz⟩ := List.exists_mem_of_length_pos (show 0 < (lvs T).length from tT.l1)
          exact List.length_pos_of_mem ((mem_fld Tsub).mpr hz)
        have ff : (fldL xs (lvs T)).length * (fldL xs (lvs T)).length ≤ 6 * 6 := Nat.mul_le_mul (by omega) (by omega)
        refine ⟨_, rfl, _, rfl, p, Fd, _, _, rfl, hp9, by omega, hF, f1, by omega, by decide, fun v2 T2 H10 t2 mem2 cnt2 hp10 b10 => ?_⟩
        have hp10 := hp10.mono (show _ ≤ c + 4200 + 800 * i + 600 by omega)
        have m12 : ∀ z, z ∈ lvs T2 ↔ z ∈ lvs T := fun z => (mem2 z).trans (mem_fld Tsub)
        have T2sub : ∀ z ∈ lvs T2, z ∈ xs := fun z hz => Tsub z ((m12 z).mp hz)
        have b610 := b69.trans b10
        have b710 : But p H7 H10 := (But.same s79).trans b10
        have tg10 : TrG H10 3 v xs T := TrG.keep tT (fun b o h e => b710 b o (no_purse w1 h) e) Tsub (by omega)
        have ug10 : TrG H10 6 v2 xs T2 := ⟨t2.any, T2sub, by omega⟩
        have pA10 := pA6.but hp6 b610
        have pB10 := pB6.but hp6 b610
        have lr10 := lr6.but hp6 b610
        refine ⟨_, rfl, _, rfl, _, rfl, PB, R, v2, xs, as, rs, T2, rfl, pB10, lr10, ug10.up (by decide), fun H11 s11 => ⟨_, rfl, iteF ?_⟩⟩
        refine ⟨_, rfl, _, rfl, PA, v2, xs, lvs T2, rs, rfl, pA10.same s11, ra, ((ug10.same s11).up (show 6 ≤ 20 by decide)).f, fun X1 H12 s12 nX1 hX1 => ?_⟩
        have s1012 := s11.trans s12
        refine ⟨_, rfl, _, rfl, PA, v, xs, lvs T, rs, rfl, pA10.same s1012, ra, ((tg10.same s1012).up (show 3 ≤ 20 by decide)).f, fun X2 H13 s13 nX2 hX2 => neW_strs (s13 _ _ hX1) hX2 ⟨_, rfl, ?_⟩⟩
        rw [fld_eq m12, decide_eq_true rfl]
        refine iteF ?_
        have s1013 := s1012.trans s13
        refine ⟨_, rfl, _, rfl, _, rfl, (show 2 ≤ sizeLine by decide), fun L1 nL1 => ?_⟩
        have sL1 := sn nL1 (o := .lst [v, v2])
        have hL1 := upd_same (H := H13) (a := L1) (o := .lst [v, v2])
        generalize upd H13 L1 (.lst [v, v2]) = H14 at sL1 hL1 ⊢
        have s1014 := s1013.trans sL1
        have e2 : lvs (.node [T, T2]) = lvs T ++ lvs T2 := by simp [lvs, lvsL]
        have tL1 : TrG H14 7 (.ref L1) xs (.node [T, T2]) := ⟨TrS.list2 hL1 (TrS.up (show 3 ≤ 6 by decide) (tg10.same s1014).tr) (ug10.same s1014).tr, fun z hz => by
          rw [e2] at hz
          exact (List.mem_append.mp hz).elim (Tsub z) (T2sub z), by rw [e2, List.length_append]; omega⟩
        refine ⟨PA, .ref L1, xs, lvs (.node [T, T2]), rs, rfl, pA10.same s1014, ra, (tL1.up (show 7 ≤ 20 by decide)).f, fun X3 H15 s15 nX3 hX3 => ?_⟩
        have s1015 := s1014.trans s15
        refine ⟨_, rfl, _, rfl, PA, v2, xs, lvs T2, rs, rfl, pA10.same s1015, ra, ((ug10.same s1015).up (show 6 ≤ 20 by decide)).f, fun X4 H16 s16 nX4 hX4 => neW_strs (s16 _ _ hX3) hX4 ⟨_, rfl, ?_⟩⟩
        rw [e2, fld_eq (ls := lvs T ++ lvs T2) (ks := lvs T2) (fun z => by rw [List.mem_append, ← m12 z, or_self]), decide_eq_true rfl]
        refine iteF ?_
        have s1016 := s1015.trans s16
        refine ⟨_, rfl, _, rfl, (show 1 ≤ sizeLine by decide), fun L2 nL2 => ?_⟩
        have sL2 := sn nL2 (o := .lst [v])
        have hL2 := upd_same (H := H16) (a := L2) (o := .lst [v])
        generalize upd H16 L2 (.lst [v]) = H17 at sL2 hL2 ⊢
        have s1017 := s1016.trans sL2
        have tL2 : TrG H17 4 (.ref L2) xs (.node [T]) := TrG.l1 hL2 (tg10.same s1017)
        refine ⟨PA, .ref L2, xs, lvs (.node [T]), rs, rfl, pA10.same s1017, ra, (tL2.up (show 4 ≤ 20 by decide)).f, fun X5 H18 s18 nX5 hX5 => ?_⟩
        have s1018 := s1017.trans s18
        refine ⟨_, rfl, _, rfl, PB, v, xs, lvs T, rs, rfl, pB10.same s1018, ra, ((tg10.same s1018).up (show 3 ≤ 20 by decide)).f, fun X6 H19 s19 nX6 hX6 => neW_strs (s19 _ _ hX5) hX6 ⟨_, rfl, ?_⟩⟩
        rw [lvs_one, decide_eq_true rfl]
        refine iteF ?_
        have s1019 := s1018.trans s19
        have hp19 := hp10.same s1019
        have b619 := b610.trans (But.same s1019)
        refine ⟨_, rfl, p, 4, _, rfl, by decide, by decide, hp19, by omega, fun q H20 q0 q1 hp20 b20 => ⟨_, _, rfl, rfl, ?_⟩⟩
        obtain ⟨N, hN⟩ : ∃ N : Nat, (4 : Int) + q = (N : Int) := ⟨((4 : Int) + q).toNat, by omega⟩
        have N4 : 4 ≤ N := by omega
        have N7 : N ≤ 7 := by omega
        have b620 := b619.trans b20
        have hn20 := b620 _ _ npn hn6
        refine ⟨(N : Int), (by show [V.int ((4 : Int) + q)] = _; rw [hN]), by omega, by omega, fun D nD => lc_range (lo := 0) (n := N) (fun i' H' => ∃ vs : List V, H' D = some (.lst vs) ∧ vs.length = i' ∧ (∀ x ∈ vs, ∃ T, TrS (fun b => H20 b = none ∧ b ≠ D) H' 1 x T ∧ (∀ z ∈ lvs T, z ∈ xs) ∧ (lvs T).length ≤ 3) ∧ Purse H' p (c + 4200 + 800 * i + 603 + 24 * i') ∧ But p H20 H')
          ⟨[], upd_same, rfl, (fun x hx => nomatch hx), (hp20.same (sn nD)).mono (by omega), But.same (sn nD)⟩ ?_ ?_⟩
        · rintro i' H' hi' ⟨vs, y1, y2, y3, y4, y5⟩
          have nDp : D ≠ p := no_purse hp20 nD
          refine ⟨rfl, _, rfl, _, rfl, p, n, _, xs, rfl, y4, (by show _ + 24 ≤ 200000; omega), y5 _ _ npn hn20, gd.l1, by omega, fun x ls H'' tx tsub t1 t3 hp'' b'' => ?_⟩
          have lt3 : ls.length ≤ 3 := t3
          obtain ⟨T', tT', eT'⟩ := tx.trP.tree
          refine ⟨vs, b'' _ _ nDp y1, small1000 (by omega), vs ++ [x], upd_same, by rw [List.length_append, y2]; rfl, fun y hy => ?_, ?_, fun b o nb hb => ?_⟩
          · rcases List.mem_append.mp hy with h | h
            · obtain ⟨T3, k1, k2, k3⟩ := y3 y h
              refine ⟨T3, k1.keep (fun _ h _ => h) fun b o h e => ?_, k2, k3⟩
              rw [upd_ne h.2]
              exact b'' _ _ (no_purse hp20 h.1) e
            · rw [List.mem_singleton.mp h]
              refine ⟨T', tT'.keep (fun b h _ => ⟨new_back y5 y4 h, fun e => by rw [e, y1] at h; cases h⟩) fun b o h e => ?_, by rw [eT']; exact tsub, by rw [eT']; exact lt3⟩
              rw [upd_ne (fun q => by rw [q, y1] at h; cases h)]
              exact e
          · obtain ⟨u, e, l⟩ := hp''
            exact ⟨u, by rw [upd_ne (Ne.symm nDp)]; exact e, l.mono (by show _ + 24 ≤ _; omega)⟩
          · rw [upd_ne (fun e => by rw [e, nD] at hb; cases hb)]
            exact b'' _ _ nb (y5 _ _ nb hb)
        rintro Hb ⟨vs, y1, y2, y3, hpb, bb⟩
        obtain ⟨ts, lts, hts⟩ := pick_all y3
        have b6b := b620.trans bb
        have b10b : But p H10 Hb := (But.same s1019).trans (b20.trans bb)
        have b7b := b710.trans b10b
        have tgb : TrG Hb 3 v xs T := TrG.keep tT (fun b o h e => b7b b o (no_purse w1 h) e) Tsub (by omega)
        have pAb := pA6.but hp6 b6b
        have lrb := lr6.but hp6 b6b
        have tmany : TrG Hb 2 (.ref D) xs (.node ts) := ⟨TrS.up1 y1 (by omega) (by omega) lts (fun j x t hx ht => (hts j x t hx ht).1.any), fun z hz => by
          rw [lvs, lvsL_eq] at hz
          obtain ⟨_, hm, hz⟩ := List.mem_flatten.mp hz
          obtain ⟨t, ht, rfl⟩ := List.mem_map.mp hm
          obtain ⟨j, hj⟩ := List.mem_iff_getElem?.mp ht
          obtain ⟨x, hx⟩ : ∃ x, vs[j]? = some x := ⟨_, List.getElem?_eq_getElem (by have := (List.getElem?_eq_some_iff.mp hj).1; omega)⟩
          exact (hts j x t hx hj).2.1 z hz, by
          have key := flat_le (m := 3) (lss := ts.map lvs) fun l hl => by
            obtain ⟨t, ht, rfl⟩ := List.mem_map.mp hl
            obtain ⟨j, hj⟩ := List.mem_iff_getElem?.mp ht
            obtain ⟨x, hx⟩ : ∃ x, vs[j]? = some x := ⟨_, List.getElem?_eq_getElem (by have := (List.getElem?_eq_some_iff.mp hj).1; omega)⟩
            exact (hts j x t hx hj).2.2
          rw [lvs, lvsL_eq]
          rw [List.length_map] at key
          omega⟩
        refine ⟨_, rfl, _, rfl, _, rfl, (show 1 ≤ sizeLine by decide), fun M1 nM1 => ?_⟩
        have sm1 := sn nM1 (o := .lst [v])
        have hm1 := upd_same (H := Hb) (a := M1) (o := .lst [v])
        generalize upd Hb M1 (.lst [v]) = Hm1 at sm1 hm1 ⊢
        have tm1 := TrG.l1 hm1 (tgb.same sm1)
        refine ⟨(show 1 ≤ sizeLine by decide), fun M2 nM2 => ?_⟩
        have sm2 := sn nM2 (o := .lst [.ref M1])
        have hm2 := upd_same (H := Hm1) (a := M2) (o := .lst [.ref M1])
        generalize upd Hm1 M2 (.lst [.ref M1]) = Hm2 at sm2 hm2 ⊢
        have tm2 := TrG.l1 hm2 (tm1.same sm2)
        refine ⟨(show 1 ≤ sizeLine by decide), fun M3 nM3 => ?_⟩
        have sm3 := sn nM3 (o := .lst [.ref M2])
        have hm3 := upd_same (H := Hm2) (a := M3) (o := .lst [.ref M2])
        generalize upd Hm2 M3 (.lst [.ref M2]) = Hm3 at sm3 hm3 ⊢
        have tm3 := TrG.l1 hm3 (tm2.same sm3)
        refine ⟨(show 1 ≤ sizeLine by decide), fun M4 nM4 => ?_⟩
        have sm4 := sn nM4 (o := .lst [.ref M3])
        have hm4 := upd_same (H := Hm3) (a := M4) (o := .lst [.ref M3])
        generalize upd Hm3 M4 (.lst [.ref M3]) = Hm4 at sm4 hm4 ⊢
        have tm4 := TrG.l1 hm4 (tm3.same sm4)
        refine ⟨(show 1 ≤ sizeLine by decide), fun M5 nM5 => ?_⟩
        have sm5 := sn nM5 (o := .lst [.ref M4])
        have hm5 := upd_same (H := Hm4) (a := M5) (o := .lst [.ref M4])
        generalize upd Hm4 M5 (.lst [.ref M4]) = Hm5 at sm5 hm5 ⊢
        have tm5 := TrG.l1 hm5 (tm4.same sm5)
        refine ⟨(show 1 ≤ sizeLine by decide), fun M6 nM6 => ?_⟩
        have sm6 := sn nM6 (o := .lst [.ref M5])
        have hm6 := upd_same (H := Hm5) (a := M6) (o := .lst [.ref M5])
        generalize upd Hm5 M6 (.lst [.ref M5]) = Hm6 at sm6 hm6 ⊢
        have tm6 := TrG.l1 hm6 (tm5.same sm6)
        refine ⟨(show 1 ≤ sizeLine by decide), fun M7 nM7 => ?_⟩
        have sm7 := sn nM7 (o := .lst [.ref M6])
        have hm7 := upd_same (H := Hm6) (a := M7) (o := .lst [.ref M6])
        generalize upd Hm6 M7 (.lst [.ref M6]) = Hm7 at sm7 hm7 ⊢
        have tm7 := TrG.l1 hm7 (tm6.same sm7)
        have sm := ((((((sm1.trans sm2).trans sm3).trans sm4).trans sm5).trans sm6).trans sm7)
        refine ⟨PA, R, .ref M7, xs, as, rs, _, rfl, pAb.same sm, lrb.same sm, tm7.up (by decide), fun H21 s21 => ⟨_, rfl, iteF ?_⟩⟩
        have sb21 := sm.trans s21
        refine ⟨_, rfl, _, rfl, _, rfl, PA, R, .ref D, xs, as, rs, .node ts, rfl, pAb.same sb21, lrb.same sb21, (tmany.same sb21).up (by decide), fun H22 s22 => ⟨_, rfl, iteF ?_⟩⟩
        have sb22 := sb21.trans s22
        exact ⟨_, _, _, _, _, rfl, (hpb.same sb22).mono (by omega), b6b.trans (But.same sb22)⟩
      rintro σ H7 ⟨o6, o7, o8, o9, o10, rfl, hp7, b67⟩
      have hn7 := b67 _ _ npn hn6
      have pA7 := pA6.but hp6 b67
      have pB7 := pB6.but hp6 b67
      have lr7 := lr6.but hp6 b67
      refine ⟨_, rfl, _, rfl, _, rfl, _, rfl, p, n, R, PA, _, xs, as, rs, rfl, hp7, by omega, hn7, lr7, pA7, fun H8 hp8 b8 => ⟨_, rfl, iteF ?_⟩⟩
      have b68 := b67.trans b8
      have hn8 := b68 _ _ npn hn6
      refine ⟨_, rfl, _, rfl, _, rfl, _, rfl, p, n, xs.map V.str, _, rfl, hp8, by omega, SqL.of hn8, npn, by rw [List.length_map]; omega, fun SA vs H9 pm hS nS hp9 b9 => ?_⟩
      obtain ⟨ys, rfl, py⟩ := perm_strs pm
      rw [List.length_map] at hp9
      have ly := py.length_eq
      have b69 := b68.trans b9
      have hn9 := b69 _ _ npn hn6
      refine ⟨_, rfl, n, _, rfl, .inl (SqL.of hn9), _, _, rfl, rfl, ⟨(show (0 : Int) < ((xs.map V.str).length : Int) by rw [List.length_map]; omega), (show ((xs.map V.str).length : Int) < 1073741824 by rw [List.length_map]; omega)⟩, ?_⟩
      obtain ⟨kN, ekN⟩ : ∃ kN : Nat, kN = 60 / xs.length := ⟨_, rfl⟩
      have hkN : (60 : Int) / ((xs.map V.str).length : Int) = (kN : Int) := by
        rw [List.length_map, ekN]
        exact (Int.natCast_ediv 60 xs.length).symm
      have kb : xs.length * kN ≤ 60 ∧ 1 ≤ kN ∧ kN ≤ 60 := by
        rw [ekN]
        exact ⟨Nat.mul_div_le 60 xs.length, Nat.div_pos (by omega) (by omega), Nat.div_le_self 60 xs.length⟩
      have k63 : -(2 ^ 63) ≤ (60 : Int) / ((xs.map V.str).length : Int) ∧ (60 : Int) / ((xs.map V.str).length : Int) < 2 ^ 63 := by
        rw [hkN]
        omega
      refine ⟨SA, (60 : Int) / ((xs.map V.str).length : Int), ys.map V.str, rfl, rfl, hS, k63.1, k63.2, ?_, fun L1 nL1 => ?_⟩
      · rw [hkN, List.length_map, ly, sizeLine_eq]
        show xs.length * kN ≤ _
        omega
      rw [hkN, show (List.replicate ((kN : Int)).toNat (ys.map V.str)).flatten = ((List.replicate kN ys).flatten).map V.str by rw [List.map_flatten, List.map_replicate]; rfl]
      obtain ⟨zs, hzs⟩ : ∃ zs, zs = (List.replicate kN ys).flatten := ⟨_, rfl⟩
      rw [← hzs]
      have sL1 := sn nL1 (o := .lst (zs.map V.str))
      have hL1 := upd_same (H := H9) (a := L1) (o := .lst (zs.map V.str))
      generalize upd H9 L1 (.lst (zs.map V.str)) = H10 at sL1 hL1 ⊢
      have zl : zs.length = kN * ys.length := by rw [hzs, List.length_flatten, List.map_replicate, List.sum_replicate_nat]
      have zl2 : zs.length ≤ 60 := by rw [zl, ly, Nat.mul_comm]; exact kb.1
      have zl1 : 1 ≤ zs.length := by rw [zl, ly]; exact Nat.mul_pos kb.2.1 (by omega)
      have zsub : ∀ z ∈ zs, z ∈ xs := fun z hz => by
        rw [hzs] at hz
        obtain ⟨l, hl, hz⟩ := List.mem_flatten.mp hz
        rw [(List.mem_replicate.mp hl).2] at hz
        exact py.mem_iff.mp hz
      have tz : TrG H10 20 (.ref L1) xs (.node (zs.map PT.leaf)) := ⟨TrS.up (show 1 ≤ 20 by decide) (TrS.up1 (d := 0) hL1 (by rw [List.length_map]; exact zl1) (by rw [List.length_map]; exact zl2) (by rw [List.length_map, List.length_map]) fun j x t hx ht => by
        rw [List.getElem?_map] at hx ht
        obtain ⟨z, hz, rfl⟩ := Option.map_eq_some_iff.mp hx
        rw [hz] at ht
        obtain rfl := Option.some.inj ht
        exact TrS.leaf), by rw [lvs, lvsL_leaf]; exact zsub, by rw [lvs, lvsL_leaf]; exact zl2⟩
      have b610 := b69.trans (But.same sL1)
      refine ⟨PA, R, .ref L1, xs, as, rs, _, rfl, pA6.but hp6 b610, lr6.but hp6 b610, tz, fun H11 s11 => ⟨_, rfl, iteF ?_⟩⟩
      have hp11 := (hp9.same sL1).same s11
      have b611 := b610.trans (But.same s11)
      refine ⟨_, rfl, p, 4, _, rfl, by decide, by decide, hp11, by omega, fun q H12 q0 q1 hp12 b12 => ⟨rfl, _, rfl, ?_⟩⟩
      have b612 := b611.trans b12
      cases decide (V.int q = V.int 0)
      case' false =>
        refine iteF (iteF ?_)
        obtain ⟨H13, e13⟩ : ∃ H13, H13 = H12 := ⟨_, rfl⟩
        have b13 : But p H12 H13 := by rw [e13]; exact But.refl _ _
        have hp13 : Purse H13 p (c + 4200 + 800 * 3 + 400 + 3 * xs.length + 3 + 9000) := by rw [e13]; exact hp12.mono (by omega)
        rw [← e13]
      case' true =>
        refine iteT ?_
        refine ⟨_, rfl, p, _, rfl, hp12, by omega, fun H13 hp13 b13 => ⟨_, rfl, iteF ?_⟩⟩
      all_goals
        have b613 := b612.trans b13
        have hn13 := b613 _ _ npn hn6
        refine ⟨_, rfl, _, rfl, _, rfl, _, rfl, p, n, R, PA, _, xs, as, rs, rfl, hp13, by omega, hn13, lr6.but hp6 b613, pA6.but hp6 b613, fun H14 hp14 b14 => ⟨_, rfl, iteF ?_⟩⟩
        have b614 := b613.trans b14
        have hn14 := b614 _ _ npn hn6
        have lr14 := lr6.but hp6 b614
        refine ⟨_, rfl, _, rfl, _, rfl, PA, n, R, xs, as, rs, rfl, pA6.but hp6 b614, hn14, lr14.at_, lr14.ra, gd, fun H15 s15 => ⟨_, rfl, iteF ?_⟩⟩
        have lr15 := lr14.same s15
        have b615 := b614.trans (But.same s15)
        refine ⟨_, rfl, _, rfl, _, rfl, PB, n, R, xs, as, rs, rfl, pB6.but hp6 b615, b615 _ _ npn hn6, lr15.at_, lr15.ra, gd, fun H16 s16 => ⟨_, rfl, iteF ?_⟩⟩
        have hp16 := (hp14.same s15).same s16
        have b216 : But p H2 H16 := b26.trans (b615.trans (But.same s16))
        refine ⟨_, _, _, _, _, _, _, _, _, _, _, rfl, b216 _ _ (Ne.symm npD) hD2, fun q hq => ?_⟩
        obtain ⟨hq2, nqD⟩ := hp2 q hq
        refine ⟨?_, nqD⟩
        by_cases e : q = p
        · rw [e]
          exact hp16.mono (by omega)
        · exact (hq2.but b216 e).mono (by omega)
    · rintro σ H' ⟨o1, o2, o3, o4, o5, o6, o7, o8, o9, o10, o11, rfl, _⟩
      exact k H'
end
end K24

set_option maxHeartbeats 4000000
namespace K24
open PySem PySem.Spec PyProof.Rows L2 G1
/-! ### what the head's run tells of the classes, as truth values -/
def exB (K : PySem.W.Frag) (C : Addr) : Bool :=
  He.eqO (PySem.W.findIn K (.ref C) "__getattribute__") (some (some (.builtin "BaseException.__getattribute__"))) && (He.eqO (PySem.W.findIn K (.ref C) "__getattr__") (some none) &&
  (decide (PySem.W.subIn K (.ref C) (.type "BaseException") = some true) && (PySem.W.hasDictIn K C && (He.eqO (PySem.W.findIn K (.ref C) "__class__") (some (some (.builtin "object.__class__"))) &&
  (He.eqO (PySem.W.specialIn K (.builtin "object.__class__") "__get__") (some (some (.builtin "getset_descriptor.__get__"))) && (decide (PySem.W.takesIn K (.builtin "object.__class__") = some true) &&
  decide (PySem.W.mroIn K C (.type "object") = some true)))))))
theorem exB_ok {K : PySem.W.Frag} {C : Addr} (h : exB K C = true) : ExcC K C := by
  obtain ⟨h1, h⟩ := He.ba h
  obtain ⟨h2, h⟩ := He.ba h
  obtain ⟨h3, h⟩ := He.ba h
  obtain ⟨h4, h⟩ := He.ba h
  obtain ⟨h5, h⟩ := He.ba h
  obtain ⟨h6, h⟩ := He.ba h
  obtain ⟨h7, h8⟩ := He.ba h
  exact ⟨He.eqO_ok h1, He.eqO_ok h2, of_decide_eq_true h3, h4, He.eqO_ok h5, He.eqO_ok h6, of_decide_eq_true h7, of_decide_eq_true h8⟩
def clsB (K : PySem.W.Frag) (C : Addr) : Bool := match K.lookup C with
  | some ⟨.type c, _, .cls cd, sl⟩ => (match cd.mro, sl.toList with
    | .ref C' :: bm, [_, _, _, _, some (.builtin n), _] => decide (c = "type") && (decide (C' = C) && (decide (n = "ValueError.__new__") && (!cd.hasDel && (cd.hasDict && PySem.HandSPX.refsVE bm))))
    | _, _ => false)
  | _ => false
theorem clsB_ok {K : PySem.W.Frag} {C : Addr} (h : clsB K C = true) : ∃ nm q N bs bm sn sub ab col dd k0 k1 k2 k3 k5, K.lookup C = some (excClassObj nm q C N bs bm true sn sub ab col dd k0 k1 k2 k3 k5 "ValueError.__new__") ∧ PySem.HandSPX.refsVE bm = true := by
  unfold clsB at h
  split at h
  · rename_i c dd cd sl ho
    split at h
    · rename_i C' bm k0 k1 k2 k3 n k5 hm hs
      obtain ⟨h1, h⟩ := He.ba h
      obtain ⟨h2, h⟩ := He.ba h
      obtain ⟨h3, h⟩ := He.ba h
      obtain ⟨h4, h⟩ := He.ba h
      obtain ⟨h5, h6⟩ := He.ba h
      have e1 := of_decide_eq_true h1
      have e2 := of_decide_eq_true h2
      have e3 := of_decide_eq_true h3
      subst e1 e2 e3
      obtain ⟨nm0, bs, mro, ns, qn, hd, sn, sub, ab, col, del⟩ := cd
      dsimp only at hm h4 h5
      subst hm h5
      have e4 : del = false := by simpa using h4
      subst e4
      have es : sl = #[k0, k1, k2, k3, some (.builtin "ValueError.__new__"), k5] := by
        obtain ⟨l⟩ := sl
        simp only at hs
        rw [hs]
      subst es
      exact ⟨nm0, qn, ns, bs, bm, sn, sub, ab, col, dd, k0, k1, k2, k3, k5, ho, h6⟩
    · cases h
  · cases h
def ecB (K : PySem.W.Frag) (x : Str) : Bool :=
  clsB K (ga K x) && (He.eqO (PySem.W.findIn K (.ref (ga K x)) "__setattr__") (some (some (.builtin "object.__setattr__"))) && (decide (PySem.W.typeIn K (.ref (ga K x)) = some (.type "type")) && (PySem.W.keepIn K (.ref (ga K x)) &&
  (He.eqO (PySem.W.findIn K (.ref (ga K x)) "value") (some none) && (He.eqO (PySem.W.findIn K (.ref (ga K x)) "__init__") (some (some (.ref (He.ma K (ga K x) "__init__")))) && decide (PySem.W.typeIn K (.ref (He.ma K (ga K x) "__init__")) = some (.type "function")))))))
theorem ecB_ok {K : PySem.W.Frag} {x : Str} (h : ecB K x = true) (e : ExcC K (ga K x)) : EC K (ga K x) (He.ma K (ga K x) "__init__") := by
  obtain ⟨h1, h⟩ := He.ba h
  obtain ⟨h2, h⟩ := He.ba h
  obtain ⟨h3, h⟩ := He.ba h
  obtain ⟨h4, h⟩ := He.ba h
  obtain ⟨h5, h⟩ := He.ba h
  obtain ⟨h6, h7⟩ := He.ba h
  exact ⟨⟨clsB_ok h1, He.eqO_ok h2, e.hs, of_decide_eq_true h3, h4⟩, e, He.eqO_ok h5, He.eqO_ok h6, of_decide_eq_true h7⟩
/-! ### Panel -/
def four : List String := ["NoneType", "int", "list", "tuple"]
def panB (K : PySem.W.Frag) : Bool :=
  (He.Fa.cls "Panel").ok K && ((He.Fa.noat "Panel" "_entries").ok K && ((He.Fa.noat "Panel" "_rows").ok K && ((He.Fa.meth "Panel" "entries").ok K && ((He.Fa.meth "Panel" "rows").ok K && ((He.Fa.meth "Panel" "__len__").ok K && ((He.Fa.meth "Panel" "__eq__").ok K && ((He.Fa.mkr "Panel").ok K &&
  (He.eqO (PySem.W.findIn K (.ref (ga K "Panel")) "__class__") (some (some (.builtin "object.__class__"))) && (He.eqO (PySem.W.specialIn K (.builtin "object.__class__") "__get__") (some (some (.builtin "getset_descriptor.__get__"))) &&
  (decide (PySem.W.takesIn K (.builtin "object.__class__") = some true) && (decide (PySem.W.mroIn K (ga K "Panel") (.type "object") = some true) && (decide (PySem.W.kitOne K (.ref (ga K "Panel")) (.ref (ga K "Panel")) = some true) &&
  ((four.all fun T => decide (PySem.W.kitOne K (.type T) (.ref (ga K "Panel")) = some false)) && (He.eqO (PySem.W.findIn K (.ref (ga K "Panel")) "__ne__") (some (some (.builtin "object.__ne__"))) && (decide (PySem.W.subIn K (.ref (ga K "Panel")) (.type "object") = some true) &&
  (PySem.W.notFirst K (ga K "Panel") (.ref (ga K "Panel")) && four.all fun T => PySem.W.notFirst K (ga K "Panel") (.type T)))))))))))))))))
theorem four_of {T : String} (h : T = "NoneType" ∨ T = "int" ∨ T = "list" ∨ T = "tuple") : T ∈ four := by
  unfold four
  rcases h with rfl | rfl | rfl | rfl <;> simp
structure PanHd (K : PySem.W.Frag) : Prop where
  y : PanY K (ga K "Panel") (He.ma K (ga K "Panel") "__eq__")
  en : Meth K (ga K "Panel") "entries" (He.ma K (ga K "Panel") "entries")
  rw : Meth K (ga K "Panel") "rows" (He.ma K (ga K "Panel") "rows")
  ln : Meth K (ga K "Panel") "__len__" (He.ma K (ga K "Panel") "__len__")
  mkr : Mk K (ga K "Panel") (He.ma K (ga K "Panel") "__init__")
theorem panB_ok {K : PySem.W.Frag} (h : panB K = true) : PanHd K := by
  obtain ⟨h1, h⟩ := He.ba h
  obtain ⟨h2, h⟩ := He.ba h
  obtain ⟨h3, h⟩ := He.ba h
  obtain ⟨h4, h⟩ := He.ba h
  obtain ⟨h5, h⟩ := He.ba h
  obtain ⟨h6, h⟩ := He.ba h
  obtain ⟨h7, h⟩ := He.ba h
  obtain ⟨h8, h⟩ := He.ba h
  obtain ⟨h9, h⟩ := He.ba h
  obtain ⟨h10, h⟩ := He.ba h
  obtain ⟨h11, h⟩ := He.ba h
  obtain ⟨h12, h⟩ := He.ba h
  obtain ⟨h13, h⟩ := He.ba h
  obtain ⟨h14, h⟩ := He.ba h
  obtain ⟨h15, h⟩ := He.ba h
  obtain ⟨h16, h⟩ := He.ba h
  obtain ⟨h17, h18⟩ := He.ba h
  have mq := He.meth_ok h7
  have pc : PanC K (ga K "Panel") := ⟨He.cls_ok h1, He.noat_ok h2, He.noat_ok h3⟩
  have px : PanX K (ga K "Panel") := { toPanC := pc, cc := He.eqO_ok h9, sg := He.eqO_ok h10, tk := of_decide_eq_true h11, mo := of_decide_eq_true h12, me := of_decide_eq_true h13, no := fun T hT => of_decide_eq_true (List.all_eq_true.mp h14 T (four_of hT)) }
  exact ⟨{ toPanX := px, eq := mq.at_, fn := mq.fn, ne := He.eqO_ok h15, ob := of_decide_eq_true h16, nm := h17, nt := fun T hT => List.all_eq_true.mp h18 T (four_of hT) }, He.meth_ok h4, He.meth_ok h5, He.meth_ok h6, He.mkr_ok h8⟩
/-! ### all -/
def errsL : List (Nat × Str) := [(3, "InvalidEntries"), (4, "InvalidRows")]
def errs : List Str := errsL.map (·.2)
def frees : List Str := ["sum", "max", "min", "len", "range", "zip", "enumerate", "int", "bool", "list", "set", "sorted", "all", "isinstance", "str", "repr", "dict", "tuple", "any", "reversed"]
def allL : List (Nat × Str) := ([(11, "is_name"), (12, "is_ascending"), (13, "are_unlike_names"), (14, "is_lot"), (15, "is_field"), (16, "is_row"), (17, "are_rows"), (18, "check_entries"), (19, "check_rows"), (20, "check_entry"), (21, "check_field"), (24, "check_panel"), (25, "first_there"), (26, "cards_on"), (27, "cards"), (28, "places"), (30, "is_tree"), (31, "check_tree"), (32, "entries_in"), (33, "field_of")] : List (Nat × Str)) ++ ([(34, "heats"), (35, "played"), (36, "each_heat"), (37, "widest"), (39, "_law_purse"), (40, "_law_mixed"), (41, "_law_draw"), (42, "_law_purses"), (43, "_law_one_of"), (44, "_law_shuffled"), (45, "_law_word"), (46, "_law_names"), (47, "_law_rows_of"), (48, "_law_cards"), (49, "_law_fields"), (50, "_law_panel"), (51, "_law_drawn"), (52, "_law_tree_of"), (53, "_law_tree_on"), (54, "_law_field_in")] : List (Nat × Str)) ++ ([(55, "_law_goes_on"), (56, "_law_tree_copied"), (57, "_law_stays"), (58, "_law_heats_of"), (59, "_law_tree_right"), (60, "_law_wide_right"), (61, "_law_kept_right"), (62, "_law_others_right"), (63, "law")] : List (Nat × Str))
def xmeths : List Str := []
def globs : List Str := errs ++ ((["Panel"] : List Str) ++ allL.map (·.2))
def caught : List Str := []
def kits : List String := []
def extraB (K : PySem.W.Frag) : Bool := (caught.all fun x => caught.all fun y => decide (PySem.W.exmOne K (.ref (ga K x)) (.ref (ga K y)) = some (decide (x = y)))) && kits.all fun T => decide (PySem.W.kitOne K (.type T) (.ref (ga K "Panel")) = some false)
def allB (K : PySem.W.Frag) : Bool :=
  (frees.all fun x => (He.Fa.free x).ok K) && ((He.Fa.int "LONGEST_NAME" 8).ok K && ((globs.all fun x => (He.Fa.glo x).ok K) && ((errs.all fun x => exB K (ga K x)) && ((errs.all fun x => ecB K x) && (panB K && (xmeths.all (fun m => (He.Fa.meth "Panel" m).ok K) && extraB K))))))
/-! ### the defs -/
def initS (i : Nat) : Stmt := match top i with
  | .ClassDef _ _ _ body .. => body.getD 0 (.Pass ⟨0, 0, 0, 0⟩)
  | s => s
def dInit (i : Nat) (x : Str) : He.DefD := ⟨(x, some "__init__"), "__init__", x ++ ".__init__", defArgs (initS i), defBody (initS i), defScope (initS i), [.non], []⟩
def dDef (p : Nat × Str) : He.DefD := ⟨(p.2, none), p.2, p.2, defArgs (top p.1), defBody (top p.1), defScope (top p.1), [], []⟩
def methL : List (Nat × Str) := [(0, "__init__"), (1, "entries"), (2, "rows"), (3, "__len__"), (4, "__eq__")]
def dMeth (p : Nat × Str) : He.DefD := ⟨("Panel", some p.2), p.2, "Panel." ++ p.2, defArgs (methS p.1), defBody (methS p.1), defScope (methS p.1), [], []⟩
def fns : List He.DefD := (errsL.map fun p => dInit p.1 p.2) ++ (methL.map dMeth ++ allL.map dDef)
end K24

set_option maxHeartbeats 0
namespace K24
open PySem PySem.Spec PyProof.Rows L2 G1
/-- what can be come to from the program's names, each looked at once -/
def asF (g : Addr → Option Obj) : Nat → List Addr → List Addr → List Addr
  | 0, as, _ => as
  | n + 1, as, fr => (fun new => asF g n (as ++ new) new) ((fr.flatMap fun a => match g a with
      | some o => He.refsD o
      | none => []).eraseDups.filter fun a => !as.elem a)
def asB (g : Addr → Option Obj) : List Addr := asF g 5 [mainGlobals] [mainGlobals]
abbrev AlM : Type := Bool × List He.FnW
def obsM (K : PySem.W.Frag) : AlM := (allB K && fns.all fun d => d.ok K, fns.map fun d => He.fnW K d.at_)
def valM : AlM := (true, fns.map He.DefD.val)
def obsG (g : Addr → Option Obj) : AlM := obsM (He.frG g (asB g))
def hk : PySem.W.Hook where
  α := AlM
  obs := fun s => obsG s.heap.get?
  val := fun _ => valM
  says := fun _ h => ∃ K : PySem.W.Frag, K.In h ∧ obsM K = valM
  of := fun _ _ e => ⟨_, He.frG_in, e⟩
  keeps := fun _ _ _ ⟨K, hK, c⟩ k => ⟨K, PySem.W.Frag.In.keeps hK k, c⟩
def ob (s : PySem.W.SharedT) : AlM := obsG (HandSHeadRun.getT s)
theorem ob_eq (s : PySem.W.SharedT) : ob s = hk.obs s.abs := by
  have e : HandSHeadRun.getT s = s.abs.heap.get? := funext (HandSHeadRun.getT_eq s)
  unfold ob
  rw [e]
  rfl
abbrev R : PySem.W.OpenRow := PySem.W.OpenLaw.row PySem.Challenge.rw_cardpanel_k24_whole_trees_of_heats
def others : List Str := (["_wall", "ShowError", "InvalidEntries", "InvalidRows", "InvalidPanel", "InvalidField", "UnknownEntry", "InvalidTree", "LONGEST_NAME", "is_name", "is_ascending", "are_unlike_names", "is_lot", "is_field", "is_row", "are_rows", "check_entries", "check_rows", "check_entry", "check_field"] : List Str) ++ (["Panel", "check_panel", "first_there", "cards_on", "cards", "places", "is_tree", "check_tree", "entries_in", "field_of", "heats", "played", "each_heat", "widest", "_law_purse", "_law_mixed", "_law_draw", "_law_purses", "_law_one_of", "_law_shuffled"] : List Str) ++ (["_law_word", "_law_names", "_law_rows_of", "_law_cards", "_law_fields", "_law_panel", "_law_drawn", "_law_tree_of", "_law_tree_on", "_law_field_in", "_law_goes_on", "_law_tree_copied", "_law_stays", "_law_heats_of", "_law_tree_right", "_law_wide_right", "_law_kept_right", "_law_others_right"] : List Str)
/-! the facts by parts, each by a run of its own -/
def okP (K : PySem.W.Frag) (l : List He.DefD) : AlM := (l.all fun d => d.ok K, l.map fun d => He.fnW K d.at_)
def comb (a b : AlM) : AlM := (a.1 && b.1, a.2 ++ b.2)
theorem okP_app {K : PySem.W.Frag} {a b : List He.DefD} : okP K (a ++ b) = comb (okP K a) (okP K b) := by
  unfold okP comb
  rw [List.all_append, List.map_append]
open PySem.W HandSHeadRun in
def RunV (obv : PySem.W.SharedT → AlM) (v : AlM) (w : World) : Prop :=
  ∀ os : OsState, (endF (stepQ (denQ tabQ) R.prog w) 20000 R.prog w os).map (fun s => (looksF R.prog (boot_heap w.params) s.abs, seenQ (view R.prog [63]) others (importedModules R.prog.main.body) (fun s => xlAt (view R.prog [63]) [] s && recOk R.toRowW.records s) s.abs, obv s)) = some (true, openGood (view R.prog [63]) others, v)
theorem RunV.join {o1 o2 : PySem.W.SharedT → AlM} {v1 v2 : AlM} {w : World} (h1 : RunV o1 v1 w) (h2 : RunV o2 v2 w) : RunV (fun s => comb (o1 s) (o2 s)) (comb v1 v2) w := by
  intro os
  have e1 := h1 os
  have e2 := h2 os
  unfold RunV at *
  generalize HandSHeadRun.endF (HandSHeadRun.stepQ (HandSHeadRun.denQ HandSHeadRun.tabQ) R.prog w) 20000 R.prog w os = x at e1 e2 ⊢
  cases x with
  | none => cases e1
  | some s =>
    rw [Option.map_some] at e1 e2 ⊢
    have q1 := Option.some.inj e1
    have q2 := Option.some.inj e2
    obtain ⟨a1, b1⟩ := Prod.mk.inj q1
    obtain ⟨a2, b2⟩ := Prod.mk.inj b1
    obtain ⟨_, c1⟩ := Prod.mk.inj q2
    obtain ⟨_, c2⟩ := Prod.mk.inj c1
    show some (_, _, comb (o1 s) (o2 s)) = _
    rw [a1, a2, b2, c2]
def frT (s : PySem.W.SharedT) : PySem.W.Frag := He.frG (HandSHeadRun.getT s) (asB (HandSHeadRun.getT s))
def part (i : Nat) : List He.DefD := (fns.drop (12 * i)).take 12
theorem runA (w : World) : RunV (fun s => (allB (frT s), [])) (true, []) w := by
  intro os
  kernel_rfl
theorem run0 (w : World) : RunV (fun s => okP (frT s) (part 0)) (true, (part 0).map He.DefD.val) w := by
  intro os
  kernel_rfl
theorem run1 (w : World) : RunV (fun s => okP (frT s) (part 1)) (true, (part 1).map He.DefD.val) w := by
  intro os
  kernel_rfl
theorem run2 (w : World) : RunV (fun s => okP (frT s) (part 2)) (true, (part 2).map He.DefD.val) w := by
  intro os
  kernel_rfl
theorem run3 (w : World) : RunV (fun s => okP (frT s) (part 3)) (true, (part 3).map He.DefD.val) w := by
  intro os
  kernel_rfl
theorem run4 (w : World) : RunV (fun s => okP (frT s) (part 4)) (true, (part 4).map He.DefD.val) w := by
  intro os
  kernel_rfl
theorem fns_eq : fns = part 0 ++ (part 1 ++ (part 2 ++ (part 3 ++ (part 4)))) := by rfl
theorem run (w : World) : HandSHeadRun.RunEq R (PySem.W.view R.prog [63]) hk ob 20000 others w := by
  have h := (runA w).join (((run0 w)).join (((run1 w)).join (((run2 w)).join (((run3 w)).join (run4 w)))))
  have e : ob = fun s => comb (allB (frT s), []) (comb (okP (frT s) (part 0)) (comb (okP (frT s) (part 1)) (comb (okP (frT s) (part 2)) (comb (okP (frT s) (part 3)) (okP (frT s) (part 4)))))) := funext fun s => by
    have q : okP (frT s) fns = comb (okP (frT s) (part 0)) (comb (okP (frT s) (part 1)) (comb (okP (frT s) (part 2)) (comb (okP (frT s) (part 3)) (okP (frT s) (part 4))))) := by
      conv => lhs; rw [fns_eq]
      simp only [okP_app]
    rw [← q]
    show obsM (frT s) = _
    unfold obsM okP comb
    rfl
  have v : valM = comb (true, []) (comb (true, (part 0).map He.DefD.val) (comb (true, (part 1).map He.DefD.val) (comb (true, (part 2).map He.DefD.val) (comb (true, (part 3).map He.DefD.val) ((true, (part 4).map He.DefD.val)))))) := by
    unfold valM comb
    conv => lhs; rw [fns_eq]
    simp only [List.map_append, Bool.and_self, List.nil_append]
  rw [← e, ← v] at h
  exact h
end K24

set_option maxHeartbeats 8000000
namespace K24
open PySem PySem.Spec PyProof.Rows L2 G1
theorem all_of {α : Type} {p : α → Bool} {l : List α} (h : l.all p = true) {x : α} (hx : x ∈ l) : p x = true := List.all_eq_true.mp h x hx
theorem fun_of {K : PySem.W.Frag} (c : obsM K = valM) {d : He.DefD} (h : d ∈ fns) : ∃ fd, FunD K d.name d.qual d.params d.body d.scope (d.dvs K) (d.kws K) (He.fAd K d.at_) fd := by
  have c1 : (allB K && fns.all fun d => d.ok K) = true := congrArg (fun z : AlM => z.1) c
  have c2 : fns.map (fun d => He.fnW K d.at_) = fns.map He.DefD.val := congrArg (fun z : AlM => z.2) c
  obtain ⟨i, hi, e⟩ := List.mem_iff_getElem.mp h
  have e2 : (fns.map fun d => He.fnW K d.at_)[i]? = (fns.map He.DefD.val)[i]? := by rw [c2]
  rw [List.getElem?_map, List.getElem?_map, List.getElem?_eq_getElem hi, e] at e2
  exact He.DefD.funD (Option.some.inj e2) (all_of (He.ba c1).2 h)
theorem init_in (j : Fin 2) : dInit (errsL.getD j.1 (0, "")).1 (errsL.getD j.1 (0, "")).2 ∈ fns := List.mem_append_left _ (List.mem_map.mpr ⟨_, by rw [List.getD_eq_getElem?_getD, List.getElem?_eq_getElem (show j.1 < errsL.length from j.2)]; exact List.getElem_mem _, rfl⟩)
theorem meth_in (j : Fin 5) : dMeth (methL.getD j.1 (0, "")) ∈ fns := List.mem_append_right _ (List.mem_append_left _ (List.mem_map.mpr ⟨_, by rw [List.getD_eq_getElem?_getD, List.getElem?_eq_getElem (show j.1 < methL.length from j.2)]; exact List.getElem_mem _, rfl⟩))
theorem def_in (j : Fin 49) : dDef (allL.getD j.1 (0, "")) ∈ fns := List.mem_append_right _ (List.mem_append_right _ (List.mem_map.mpr ⟨_, by rw [List.getD_eq_getElem?_getD, List.getElem?_eq_getElem (show j.1 < allL.length from j.2)]; exact List.getElem_mem _, rfl⟩))
theorem err_ix {x : Str} (h : x ∈ errs) : ∃ j : Fin 2, (errsL.getD j.1 (0, "")).2 = x := by
  obtain ⟨p, hp, rfl⟩ := List.mem_map.mp (show x ∈ errsL.map (·.2) from h)
  obtain ⟨i, hi, e⟩ := List.mem_iff_getElem.mp hp
  refine ⟨⟨i, hi⟩, ?_⟩
  rw [List.getD_eq_getElem?_getD, List.getElem?_eq_getElem hi, e]
  rfl
def initI (j : Fin 2) : Stmt := initS (errsL.getD j.1 (0, "")).1
theorem init_sc : ∀ j : Fin 2, FnScope iPs iPs (defScope (initI j)) := by
  intro j
  have h : ∀ j : Fin 2, (defScope (initI j)) = (defScope (initS 3)) := by decide +kernel
  rw [h j]
  exact ⟨rfl, rfl, rfl, by decide +kernel, rfl, by decide +kernel, by decide +kernel⟩
def iAr (p1 p2 : Pos) (e : Expr) : Arguments := { posonlyargs := [], args := [{ arg := "self", annotation := none, pos := p1 }, { arg := "value", annotation := none, pos := p2 }], vararg := none, kwonlyargs := [], kw_defaults := [], kwarg := none, defaults := [e] }
section
variable {ql : Str} {p1 p2 : Pos} {e : Expr} {bd : List Stmt} {sc : Scope}
theorem bind2 (T : Addr) (kV doc pm : Value) (an : Option Addr) (cdv ct : Value) (us its : List Value) (h1 : us.length = 2) (h2 : its.length = 1) :
    ∃ k, bindArgs (PySem.W.fnOf "__init__" ql (iAr p1 p2 e) bd sc (.ref T) kV doc pm an cdv ct) ⟨us, []⟩ = seqItems? (.ref T) >>= k ∧ k (some its.toArray) = pure (iPs.zip (us ++ its.drop 1)) :=
  match us, its, h1, h2 with | [_, _], [_], _, _ => ⟨_, rfl, rfl⟩
end
/-- what is read off the text of one such __init__ -/
def shapeB (a : Arguments) (b : List Stmt) : Bool := match a, b with
  | ⟨[], [⟨s1, none, _⟩, ⟨s2, none, _⟩], none, [], [], none, [_]⟩, [.Assign [.Attribute (.Name s3 _) s4 _] (.Name s5 _) _] => decide (s1 = "self") && (decide (s2 = "value") && (decide (s3 = "self") && (decide (s4 = "value") && decide (s5 = "value"))))
  | _, _ => false
theorem shapeB_ok {a : Arguments} {b : List Stmt} (h : shapeB a b = true) : (∃ p1 p2 e, a = iAr p1 p2 e) ∧ ∃ p1 p2 p3 p4, b = [.Assign [.Attribute (.Name "self" p1) "value" p2] (.Name "value" p3) p4] := by
  unfold shapeB at h
  split at h
  · obtain ⟨h1, h⟩ := He.ba h
    obtain ⟨h2, h⟩ := He.ba h
    obtain ⟨h3, h⟩ := He.ba h
    obtain ⟨h4, h5⟩ := He.ba h
    rw [of_decide_eq_true h1, of_decide_eq_true h2, of_decide_eq_true h3, of_decide_eq_true h4, of_decide_eq_true h5]
    exact ⟨⟨_, _, _, rfl⟩, _, _, _, _, rfl⟩
  · cases h
theorem shapes : ∀ j : Fin 2, shapeB (defArgs (initI j)) (defBody (initI j)) = true := by decide +kernel
section
variable {P : Program} {w : World} {K : PySem.W.Frag} {mg : Str → Option Value} {base : Heap}
theorem errC_of {x : Str} (c : obsM K = valM) (hx : x ∈ errs) (E : EC K (ga K x) (He.ma K (ga K x) "__init__")) (gl : mg x = some (.ref (ga K x))) : ErrC P w K mg base x := by
  obtain ⟨j, hj⟩ := err_ix hx
  obtain ⟨fd, F⟩ := fun_of c (init_in j)
  rw [hj] at F
  have F' : FunD K "__init__" (x ++ ".__init__") (defArgs (initI j)) (defBody (initI j)) (defScope (initI j)) [.non] [] (He.ma K (ga K x) "__init__") fd := F
  obtain ⟨⟨q1, q2, qe, ea⟩, p1, p2, p3, p4, e⟩ := shapeB_ok (shapes j)
  rw [ea, e] at F'
  obtain ⟨d1, v1, b1⟩ := FunD.binds1 (ps := iPs) F' 2 1 (by simp) rfl bind2
  have e1 : d1 = [] := by
    cases v1
    rfl
  subst e1
  refine ⟨⟨_, fd, E, ?_, b1⟩, gl⟩
  refine okN F' (init_sc j) (fun vs H Q Ex h => ?_) (fun cdv A outer s H vs Q Ex hr h => ?_)
  · obtain ⟨_, _, rfl, _⟩ := h
    rfl
  · obtain ⟨a, v, rfl, ha, k⟩ := h
    have sc := init_sc j
    refine ⟨tOst K "value" (tVar 0) (tVar 1), ?_, ?_⟩
    · exact pss_one (ps_ost (pe_var (x := "self") rfl (sc.par "self" (List.mem_cons_self)|>.imp id .inl) (by decide) (by decide)) (pe_var (x := "value") rfl (sc.par "value" (List.mem_cons_of_mem _ List.mem_cons_self)|>.imp id .inl) (by decide) (by decide)))
    · exact ⟨v, rfl, _, rfl, a, ga K x, rfl, E.t, E.nv, .inl ⟨ha, fun dx n ne => k dx n ne⟩⟩
end
end K24

set_option maxHeartbeats 8000000
namespace K24
open PySem PySem.Spec PyProof.Rows L2 G1
structure Facts (K : PySem.W.Frag) (mg : Str → Option Value) : Prop where
  fr : ∀ x ∈ frees, mg x = none
  long : ∃ t, mg "LONGEST_NAME" = some (.int 8 t)
  gl : ∀ x ∈ globs, mg x = some (.ref (ga K x))
  ec : ∀ x ∈ errs, EC K (ga K x) (He.ma K (ga K x) "__init__")
  pan : PanHd K
  xm : ∀ m ∈ xmeths, Meth K (ga K "Panel") m (He.ma K (ga K "Panel") m)
  xc : ∀ x ∈ errs, ExcC K (ga K x)
  ex : ∀ x ∈ caught, ∀ y ∈ caught, PySem.W.exmOne K (.ref (ga K x)) (.ref (ga K y)) = some (decide (x = y))
  kt : ∀ T ∈ kits, PySem.W.kitOne K (.type T) (.ref (ga K "Panel")) = some false
theorem facts_of {K : PySem.W.Frag} {h : Heap} {mg : Str → Option Value} (X : K.In h) (G : h.Ns mainGlobals mg) (c : obsM K = valM) : Facts K mg := by
  have c1 : (allB K && fns.all fun d => d.ok K) = true := congrArg (fun z : AlM => z.1) c
  obtain ⟨h1, q⟩ := He.ba (He.ba c1).1
  obtain ⟨h2, q⟩ := He.ba q
  obtain ⟨h3, q⟩ := He.ba q
  obtain ⟨h4, q⟩ := He.ba q
  obtain ⟨h5, q⟩ := He.ba q
  obtain ⟨h6, q⟩ := He.ba q
  obtain ⟨h7, q⟩ := He.ba q
  obtain ⟨h8, h9⟩ := He.ba q
  exact ⟨fun x hx => He.free_ok X G (all_of h1 hx), He.int_ok X G h2, fun x hx => He.glo_ok X G (all_of h3 hx), fun x hx => ecB_ok (all_of h5 hx) (exB_ok (all_of h4 hx)), panB_ok h6, fun m hm => He.meth_ok (all_of h7 hm), fun x hx => exB_ok (all_of h4 hx), fun x hx y hy => of_decide_eq_true (all_of (all_of h8 hx) hy), fun T hT => of_decide_eq_true (all_of h9 hT)⟩
theorem law_of {P : Program} {w : World} {K : PySem.W.Frag} {h : Heap} {mg : Str → Option Value} {f : Addr} (X : K.In h) (G : h.Ns mainGlobals mg) (hfa : mg ("law" : Str) = some (.ref f)) (c : obsM K = valM) :
    ∃ fd : FuncData, (∀ (s : Shared) (v : Value), BindsTo s fd ⟨[v], []⟩ [("_law_script", v)]) ∧ ∀ base : Heap, K.In base → base.Ns mainGlobals mg → FnG P w K mg base 29 f fd ["_law_script"] (spLaw K) := by
  have T := facts_of X G c
  have fr := T.fr
  have gl := T.gl
  obtain ⟨m0, M0⟩ := fun_of c (meth_in 0)
  obtain ⟨m1, M1⟩ := fun_of c (meth_in 1)
  obtain ⟨m2, M2⟩ := fun_of c (meth_in 2)
  obtain ⟨m3, M3⟩ := fun_of c (meth_in 3)
  obtain ⟨m4, M4⟩ := fun_of c (meth_in 4)
  obtain ⟨d0, D0⟩ := fun_of c (def_in 0)
  obtain ⟨d1, D1⟩ := fun_of c (def_in 1)
  obtain ⟨d2, D2⟩ := fun_of c (def_in 2)
  obtain ⟨d3, D3⟩ := fun_of c (def_in 3)
  obtain ⟨d4, D4⟩ := fun_of c (def_in 4)
  obtain ⟨d5, D5⟩ := fun_of c (def_in 5)
  obtain ⟨d6, D6⟩ := fun_of c (def_in 6)
  obtain ⟨d7, D7⟩ := fun_of c (def_in 7)
  obtain ⟨d8, D8⟩ := fun_of c (def_in 8)
  obtain ⟨d9, D9⟩ := fun_of c (def_in 9)
  obtain ⟨d10, D10⟩ := fun_of c (def_in 10)
  obtain ⟨d11, D11⟩ := fun_of c (def_in 11)
  obtain ⟨d12, D12⟩ := fun_of c (def_in 12)
  obtain ⟨d13, D13⟩ := fun_of c (def_in 13)
  obtain ⟨d14, D14⟩ := fun_of c (def_in 14)
  obtain ⟨d15, D15⟩ := fun_of c (def_in 15)
  obtain ⟨d16, D16⟩ := fun_of c (def_in 16)
  obtain ⟨d17, D17⟩ := fun_of c (def_in 17)
  obtain ⟨d18, D18⟩ := fun_of c (def_in 18)
  obtain ⟨d19, D19⟩ := fun_of c (def_in 19)
  obtain ⟨d20, D20⟩ := fun_of c (def_in 20)
  obtain ⟨d21, D21⟩ := fun_of c (def_in 21)
  obtain ⟨d22, D22⟩ := fun_of c (def_in 22)
  obtain ⟨d23, D23⟩ := fun_of c (def_in 23)
  obtain ⟨d24, D24⟩ := fun_of c (def_in 24)
  obtain ⟨d25, D25⟩ := fun_of c (def_in 25)
  obtain ⟨d26, D26⟩ := fun_of c (def_in 26)
  obtain ⟨d27, D27⟩ := fun_of c (def_in 27)
  obtain ⟨d28, D28⟩ := fun_of c (def_in 28)
  obtain ⟨d29, D29⟩ := fun_of c (def_in 29)
  obtain ⟨d30, D30⟩ := fun_of c (def_in 30)
  obtain ⟨d31, D31⟩ := fun_of c (def_in 31)
  obtain ⟨d32, D32⟩ := fun_of c (def_in 32)
  obtain ⟨d33, D33⟩ := fun_of c (def_in 33)
  obtain ⟨d34, D34⟩ := fun_of c (def_in 34)
  obtain ⟨d35, D35⟩ := fun_of c (def_in 35)
  obtain ⟨d36, D36⟩ := fun_of c (def_in 36)
  obtain ⟨d37, D37⟩ := fun_of c (def_in 37)
  obtain ⟨d38, D38⟩ := fun_of c (def_in 38)
  obtain ⟨d39, D39⟩ := fun_of c (def_in 39)
  obtain ⟨d40, D40⟩ := fun_of c (def_in 40)
  obtain ⟨d41, D41⟩ := fun_of c (def_in 41)
  obtain ⟨d42, D42⟩ := fun_of c (def_in 42)
  obtain ⟨d43, D43⟩ := fun_of c (def_in 43)
  obtain ⟨d44, D44⟩ := fun_of c (def_in 44)
  obtain ⟨d45, D45⟩ := fun_of c (def_in 45)
  obtain ⟨d46, D46⟩ := fun_of c (def_in 46)
  obtain ⟨d47, D47⟩ := fun_of c (def_in 47)
  obtain ⟨d48, D48⟩ := fun_of c (def_in 48)
  have e := hfa.symm.trans (gl "law" (by decide))
  cases e
  have I___init__ : FnM K "__init__" "Panel.__init__" sInit (He.ma K (ga K "Panel") "__init__") m0 := M0
  have I_entries : FnM K "entries" "Panel.entries" sEnt (He.ma K (ga K "Panel") "entries") m1 := M1
  have I_rows : FnM K "rows" "Panel.rows" sRws (He.ma K (ga K "Panel") "rows") m2 := M2
  have I___len__ : FnM K "__len__" "Panel.__len__" sLen (He.ma K (ga K "Panel") "__len__") m3 := M3
  have I___eq__ : FnM K "__eq__" "Panel.__eq__" sEq (He.ma K (ga K "Panel") "__eq__") m4 := M4
  have J_is_name : FnP K "is_name" sIsName (ga K "is_name") d0 := D0
  have J_is_ascending : FnP K "is_ascending" sAsc (ga K "is_ascending") d1 := D1
  have J_are_unlike_names : FnP K "are_unlike_names" sUnlike (ga K "are_unlike_names") d2 := D2
  have J_is_lot : FnP K "is_lot" sIsLot (ga K "is_lot") d3 := D3
  have J_is_field : FnP K "is_field" sIsField (ga K "is_field") d4 := D4
  have J_is_row : FnP K "is_row" sIsRow (ga K "is_row") d5 := D5
  have J_are_rows : FnP K "are_rows" sAreR (ga K "are_rows") d6 := D6
  have J_check_entries : FnP K "check_entries" sChkE (ga K "check_entries") d7 := D7
  have J_check_rows : FnP K "check_rows" sChkR (ga K "check_rows") d8 := D8
  have J_check_entry : FnP K "check_entry" sChkN (ga K "check_entry") d9 := D9
  have J_check_field : FnP K "check_field" sChkF (ga K "check_field") d10 := D10
  have J_check_panel : FnP K "check_panel" sChkP (ga K "check_panel") d11 := D11
  have J_first_there : FnP K "first_there" sFirst (ga K "first_there") d12 := D12
  have J_cards_on : FnP K "cards_on" sCardsOn (ga K "cards_on") d13 := D13
  have J_cards : FnP K "cards" sCards (ga K "cards") d14 := D14
  have J_places : FnP K "places" sPlaces (ga K "places") d15 := D15
  have J_is_tree : FnP K "is_tree" sIsTree (ga K "is_tree") d16 := D16
  have J_check_tree : FnP K "check_tree" sChkT (ga K "check_tree") d17 := D17
  have J_entries_in : FnP K "entries_in" sEntIn (ga K "entries_in") d18 := D18
  have J_field_of : FnP K "field_of" sFieldOf (ga K "field_of") d19 := D19
  have J_heats : FnP K "heats" sHeats (ga K "heats") d20 := D20
  have J_played : FnP K "played" sPlayed (ga K "played") d21 := D21
  have J_each_heat : FnP K "each_heat" sEach (ga K "each_heat") d22 := D22
  have J_widest : FnP K "widest" sWidest (ga K "widest") d23 := D23
  have J__law_purse : FnP K "_law_purse" sPurse (ga K "_law_purse") d24 := D24
  have J__law_mixed : FnP K "_law_mixed" sMixed (ga K "_law_mixed") d25 := D25
  have J__law_draw : FnP K "_law_draw" sDraw (ga K "_law_draw") d26 := D26
  have J__law_purses : FnP K "_law_purses" sPurses (ga K "_law_purses") d27 := D27
  have J__law_one_of : FnP K "_law_one_of" sOne (ga K "_law_one_of") d28 := D28
  have J__law_shuffled : FnP K "_law_shuffled" sShuf (ga K "_law_shuffled") d29 := D29
  have J__law_word : FnP K "_law_word" sWord (ga K "_law_word") d30 := D30
  have J__law_names : FnP K "_law_names" sNames (ga K "_law_names") d31 := D31
  have J__law_rows_of : FnP K "_law_rows_of" sRows (ga K "_law_rows_of") d32 := D32
  have J__law_cards : FnP K "_law_cards" sLC (ga K "_law_cards") d33 := D33
  have J__law_fields : FnP K "_law_fields" sFlds (ga K "_law_fields") d34 := D34
  have J__law_panel : FnP K "_law_panel" sPanQ (ga K "_law_panel") d35 := D35
  have J__law_drawn : FnP K "_law_drawn" sDr2 (ga K "_law_drawn") d36 := D36
  have J__law_tree_of : FnP K "_law_tree_of" sTreeOf (ga K "_law_tree_of") d37 := D37
  have J__law_tree_on : FnP K "_law_tree_on" sTreeOn (ga K "_law_tree_on") d38 := D38
  have J__law_field_in : FnP K "_law_field_in" sFldIn (ga K "_law_field_in") d39 := D39
  have J__law_goes_on : FnP K "_law_goes_on" sGoesOn (ga K "_law_goes_on") d40 := D40
  have J__law_tree_copied : FnP K "_law_tree_copied" sTCop (ga K "_law_tree_copied") d41 := D41
  have J__law_stays : FnP K "_law_stays" sStays (ga K "_law_stays") d42 := D42
  have J__law_heats_of : FnP K "_law_heats_of" sHeatsOf (ga K "_law_heats_of") d43 := D43
  have J__law_tree_right : FnP K "_law_tree_right" sTrR (ga K "_law_tree_right") d44 := D44
  have J__law_wide_right : FnP K "_law_wide_right" sWR (ga K "_law_wide_right") d45 := D45
  have J__law_kept_right : FnP K "_law_kept_right" sKR (ga K "_law_kept_right") d46 := D46
  have J__law_others_right : FnP K "_law_others_right" sOR (ga K "_law_others_right") d47 := D47
  have J_law : FnP K "law" sLaw (ga K "law") d48 := D48
  have b := FunD.bindsA (ps := ["_law_script"]) J_law fun _ _ _ _ _ _ us hl => match us, hl with | [_], _ => rfl
  refine ⟨d48, fun s v => b s [v] rfl, fun base _ _ => ?_⟩
  have L : Lib K mg := ⟨fr _ (by decide), fr _ (by decide), fr _ (by decide), fr _ (by decide), fr _ (by decide)⟩
  have LP : LibP mg := ⟨fr _ (by decide), fr _ (by decide), fr _ (by decide), fr _ (by decide), fr _ (by decide), fr _ (by decide), T.long⟩
  have LZ : LibZ mg := ⟨fr _ (by decide), fr _ (by decide), fr _ (by decide), fr _ (by decide)⟩
  have gP : mg "Panel" = some (.ref (ga K "Panel")) := gl _ (by decide)
  have EE : ErrC P w K mg base "InvalidEntries" := errC_of c (by decide) (T.ec _ (by decide)) (gl _ (by decide))
  have ER : ErrC P w K mg base "InvalidRows" := errC_of c (by decide) (T.ec _ (by decide)) (gl _ (by decide))
  have PX : PanX K (ga K "Panel") := T.pan.y.toPanX
  have PC : PanC K (ga K "Panel") := PX.toPanC
  have GD := ok_draw (P := P) (w := w) (base := base) J__law_draw L J__law_mixed (gl "_law_mixed" (by decide))
  have GP := ok_purses (P := P) (w := w) (base := base) J__law_purses L J__law_purse (gl "_law_purse" (by decide))
  have GS := ok_shuf (P := P) (w := w) (base := base) J__law_shuffled L J__law_draw (gl "_law_draw" (by decide)) GD
  have GW := ok_word (P := P) (w := w) (base := base) J__law_word L J__law_draw (gl "_law_draw" (by decide)) GD
  have GN := ok_names (P := P) (w := w) (base := base) J__law_names L LP.sorted J__law_shuffled (gl "_law_shuffled" (by decide)) GS J__law_word (gl "_law_word" (by decide)) GW
  have GR := ok_rows (P := P) (w := w) (base := base) J__law_rows_of L J__law_shuffled (gl "_law_shuffled" (by decide)) GS J__law_draw (gl "_law_draw" (by decide)) GD
  have GU := ok_unlike (P := P) (w := w) (base := base) J_are_unlike_names L LP J_is_name (gl "is_name" (by decide))
  have GI := ok_isRow (P := P) (w := w) (base := base) J_is_row L LP
  have GA := ok_areR (P := P) (w := w) (base := base) J_are_rows L LP J_is_row (gl "is_row" (by decide)) GI
  have GE := ok_chkE (P := P) (w := w) (base := base) J_check_entries EE J_are_unlike_names (gl "are_unlike_names" (by decide)) GU
  have GK := ok_chkR (P := P) (w := w) (base := base) J_check_rows ER J_are_rows (gl "are_rows" (by decide)) GA
  have GIn := ok_init (P := P) (w := w) (base := base) I___init__ L LP PC J_check_entries (gl "check_entries" (by decide)) GE J_check_rows (gl "check_rows" (by decide)) GK
  have GEn := ok_ent (P := P) (w := w) (base := base) I_entries LP PC
  have GRw := ok_rws (P := P) (w := w) (base := base) I_rows LP PC
  have GLn := ok_len (P := P) (w := w) (base := base) I___len__ L PC
  have GEq := ok_eq (P := P) (w := w) (base := base) I___eq__ LP PX gP
  have N : PanP P w K mg base (ga K "Panel") := ⟨PC.cls, ⟨⟨_, _, T.pan.en, GEn, I_entries.bindsN fun _ _ _ _ _ _ us hl => match us, hl with | [_], _ => rfl⟩⟩, ⟨⟨_, _, T.pan.rw, GRw, I_rows.bindsN fun _ _ _ _ _ _ us hl => match us, hl with | [_], _ => rfl⟩⟩,
    ⟨_, _, T.pan.ln.at_, T.pan.ln.fn, GLn, I___len__.bindsN fun _ _ _ _ _ _ us hl => match us, hl with | [_], _ => rfl⟩⟩
  have GAs := ok_asc (P := P) (w := w) (base := base) (K := K) J_is_ascending LP LZ
  have GIL := ok_isLot (P := P) (w := w) (base := base) J_is_lot LP J_is_ascending (gl "is_ascending" (by decide)) GAs
  have GIF := ok_isField (P := P) (w := w) (base := base) J_is_field L J_is_lot (gl "is_lot" (by decide)) GIL
  have GCF := ok_chkF (P := P) (w := w) (base := base) J_check_field J_is_field (gl "is_field" (by decide)) GIF
  have GCN := ok_chkN (P := P) (w := w) (base := base) (mg := mg) J_check_entry
  have GCP := ok_chkP (P := P) (w := w) (base := base) J_check_panel LP PX gP
  have GFi := ok_first (P := P) (w := w) (base := base) (mg := mg) J_first_there
  have GCO := ok_cardsOn (P := P) (w := w) (base := base) J_cards_on LP J_first_there (gl "first_there" (by decide)) GFi
  have DP : Df P w K mg base 1 "check_panel" sChkP ["panel"] (spChkP (ga K "Panel")) := ⟨⟨_, _, J_check_panel, gl _ (by decide), GCP, (J_check_panel.bindsN fun _ _ _ _ _ _ us hl => match us, hl with | [_], _ => rfl)⟩⟩
  have DN : Df P w K mg base 1 "check_entry" sChkN ["entries", "entry"] (spChkN K) := ⟨⟨_, _, J_check_entry, gl _ (by decide), GCN, (J_check_entry.bindsN fun _ _ _ _ _ _ us hl => match us, hl with | [_, _], _ => rfl)⟩⟩
  have DF : Df P w K mg base 4 "check_field" sChkF ["entries", "field"] (spChkF K) := ⟨⟨_, _, J_check_field, gl _ (by decide), GCF, (J_check_field.bindsN fun _ _ _ _ _ _ us hl => match us, hl with | [_, _], _ => rfl)⟩⟩
  have D1 : Df P w K mg base 1 "first_there" sFirst ["row", "field"] (spFirst K) := ⟨⟨_, _, J_first_there, gl _ (by decide), GFi, (J_first_there.bindsN fun _ _ _ _ _ _ us hl => match us, hl with | [_, _], _ => rfl)⟩⟩
  have D2 : Df P w K mg base 2 "cards_on" sCardsOn ["rows", "field"] (spCardsOn K) := ⟨⟨_, _, J_cards_on, gl _ (by decide), GCO, (J_cards_on.bindsN fun _ _ _ _ _ _ us hl => match us, hl with | [_, _], _ => rfl)⟩⟩
  have DIL : Df P w K mg base 2 "is_lot" sIsLot ["entries", "value"] (spIsLot K) := ⟨⟨_, _, J_is_lot, gl _ (by decide), GIL, (J_is_lot.bindsN fun _ _ _ _ _ _ us hl => match us, hl with | [_, _], _ => rfl)⟩⟩
  have DCa : Df P w K mg base 5 "cards" sCards ["panel", "field"] (spCards (ga K "Panel")) := ⟨⟨_, _, J_cards, gl _ (by decide), ok_cards J_cards N DP DF D2, (J_cards.bindsN fun _ _ _ _ _ _ us hl => match us, hl with | [_, _], _ => rfl)⟩⟩
  have DPl : Df P w K mg base 2 "places" sPlaces ["panel", "entry"] (spPlaces (ga K "Panel")) := ⟨⟨_, _, J_places, gl _ (by decide), ok_places J_places N DP DN, (J_places.bindsN fun _ _ _ _ _ _ us hl => match us, hl with | [_, _], _ => rfl)⟩⟩
  have LD : Df P w K mg base 2 "_law_draw" sDraw ["_law_purse_here", "_law_many"] spDraw := ⟨⟨_, _, J__law_draw, gl _ (by decide), GD, (J__law_draw.bindsN fun _ _ _ _ _ _ us hl => match us, hl with | [_, _], _ => rfl)⟩⟩
  have LPs : Df P w K mg base 2 "_law_purses" sPurses ["_law_script", "_law_few"] (spPurses K) := ⟨⟨_, _, J__law_purses, gl _ (by decide), GP, (J__law_purses.bindsN fun _ _ _ _ _ _ us hl => match us, hl with | [_, _], _ => rfl)⟩⟩
  have LO : Df P w K mg base 3 "_law_one_of" sOne ["_law_purse_here", "_law_some"] (spOne K) := ⟨⟨_, _, J__law_one_of, gl _ (by decide), ok_one J__law_one_of L LD, (J__law_one_of.bindsN fun _ _ _ _ _ _ us hl => match us, hl with | [_, _], _ => rfl)⟩⟩
  have LS : Df P w K mg base 3 "_law_shuffled" sShuf ["_law_purse_here", "_law_some"] (spShuf K) := ⟨⟨_, _, J__law_shuffled, gl _ (by decide), GS, (J__law_shuffled.bindsN fun _ _ _ _ _ _ us hl => match us, hl with | [_, _], _ => rfl)⟩⟩
  have LN : Df P w K mg base 4 "_law_names" sNames ["_law_purse_here", "_law_many"] spNames := ⟨⟨_, _, J__law_names, gl _ (by decide), GN, (J__law_names.bindsN fun _ _ _ _ _ _ us hl => match us, hl with | [_, _], _ => rfl)⟩⟩
  have LR : Df P w K mg base 4 "_law_rows_of" sRows ["_law_purse_here", "_law_names_here", "_law_many"] (spRows K) := ⟨⟨_, _, J__law_rows_of, gl _ (by decide), GR, (J__law_rows_of.bindsN fun _ _ _ _ _ _ us hl => match us, hl with | [_, _, _], _ => rfl)⟩⟩
  have LC : Df P w K mg base 1 "_law_cards" sLC ["_law_rows", "_law_field"] (spLC K) := ⟨⟨_, _, J__law_cards, gl _ (by decide), ok_lawCards J__law_cards LP, (J__law_cards.bindsN fun _ _ _ _ _ _ us hl => match us, hl with | [_, _], _ => rfl)⟩⟩
  have LF : Df P w K mg base 1 "_law_fields" sFlds ["_law_names_here"] (spFlds K) := ⟨⟨_, _, J__law_fields, gl _ (by decide), ok_flds J__law_fields, (J__law_fields.bindsN fun _ _ _ _ _ _ us hl => match us, hl with | [_], _ => rfl)⟩⟩
  have GPS := ok_pursesS (P := P) (w := w) (base := base) J__law_purses L J__law_purse (gl "_law_purse" (by decide))
  have LPS : Df P w K mg base 2 "_law_purses" sPurses ["_law_script", "_law_few"] (spPursesS K) := ⟨⟨_, _, J__law_purses, gl _ (by decide), GPS, (J__law_purses.bindsN fun _ _ _ _ _ _ us hl => match us, hl with | [_, _], _ => rfl)⟩⟩
  have W_is_tree : Df P w K mg base 21 "is_tree" sIsTree ["entries", "value"] (spIsTree 20) := ⟨⟨_, _, J_is_tree, gl _ (by decide), ok_isTree J_is_tree (gl "is_tree" (by decide)) L LP 20, (J_is_tree.bindsN fun _ _ _ _ _ _ us hl => match us, hl with | [_, _], _ => rfl)⟩⟩
  have W_ent : Df P w K mg base 21 "entries_in" sEntIn ["tree"] (spEntIn 20) := ⟨⟨_, _, J_entries_in, gl _ (by decide), ok_entIn J_entries_in (gl "entries_in" (by decide)) LP 20, (J_entries_in.bindsN fun _ _ _ _ _ _ us hl => match us, hl with | [_], _ => rfl)⟩⟩
  have W_chkT : Df P w K mg base 22 "check_tree" sChkT ["panel", "tree"] (spChkT (ga K "Panel") 20) := ⟨⟨_, _, J_check_tree, gl _ (by decide), ok_chkT J_check_tree N DP W_is_tree, (J_check_tree.bindsN fun _ _ _ _ _ _ us hl => match us, hl with | [_, _], _ => rfl)⟩⟩
  have W_field : Df P w K mg base 23 "field_of" sFieldOf ["panel", "tree"] (spFieldOf (ga K "Panel") 20) := ⟨⟨_, _, J_field_of, gl _ (by decide), ok_fieldOf J_field_of LP W_chkT W_ent, (J_field_of.bindsN fun _ _ _ _ _ _ us hl => match us, hl with | [_, _], _ => rfl)⟩⟩
  have W_heats : Df P w K mg base 26 "heats" sHeats ["panel", "tree"] (spHeats (ga K "Panel") 20) := ⟨⟨_, _, J_heats, gl _ (by decide), ok_heats J_heats DCa W_field, (J_heats.bindsN fun _ _ _ _ _ _ us hl => match us, hl with | [_, _], _ => rfl)⟩⟩
  have W_played : Df P w K mg base 23 "played" sPlayed ["rows", "tree"] (spPl K 20) := ⟨⟨_, _, J_played, gl _ (by decide), ok_played J_played (gl "played" (by decide)) LP D2 20, (J_played.bindsN fun _ _ _ _ _ _ us hl => match us, hl with | [_, _], _ => rfl)⟩⟩
  have W_each : Df P w K mg base 24 "each_heat" sEach ["panel", "tree"] (spEach (ga K "Panel") 20) := ⟨⟨_, _, J_each_heat, gl _ (by decide), ok_each J_each_heat (by decide) N W_chkT W_played, (J_each_heat.bindsN fun _ _ _ _ _ _ us hl => match us, hl with | [_, _], _ => rfl)⟩⟩
  have W_widest : Df P w K mg base 25 "widest" sWidest ["panel", "tree"] (spWid (ga K "Panel") 20) := ⟨⟨_, _, J_widest, gl _ (by decide), ok_widest J_widest L (by decide) W_each, (J_widest.bindsN fun _ _ _ _ _ _ us hl => match us, hl with | [_, _], _ => rfl)⟩⟩
  have W_fldin : Df P w K mg base 21 "_law_field_in" sFldIn ["_law_tree"] (spFldIn 20) := ⟨⟨_, _, J__law_field_in, gl _ (by decide), ok_fldIn J__law_field_in (gl "_law_field_in" (by decide)) LP 20, (J__law_field_in.bindsN fun _ _ _ _ _ _ us hl => match us, hl with | [_], _ => rfl)⟩⟩
  have W_goes : Df P w K mg base 22 "_law_goes_on" sGoesOn ["_law_rows", "_law_tree", "_law_told"] (spGo K 20) := ⟨⟨_, _, J__law_goes_on, gl _ (by decide), ok_goesOn J__law_goes_on (gl "_law_goes_on" (by decide)) LP LC 20, (J__law_goes_on.bindsN fun _ _ _ _ _ _ us hl => match us, hl with | [_, _, _], _ => rfl)⟩⟩
  have W_hof : Df P w K mg base 23 "_law_heats_of" sHeatsOf ["_law_rows", "_law_tree"] (spHO K 20) := ⟨⟨_, _, J__law_heats_of, gl _ (by decide), ok_heatsOf J__law_heats_of (by decide) W_goes, (J__law_heats_of.bindsN fun _ _ _ _ _ _ us hl => match us, hl with | [_, _], _ => rfl)⟩⟩
  have W_copied : Df P w K mg base 21 "_law_tree_copied" sTCop ["_law_tree"] (spCop 20) := ⟨⟨_, _, J__law_tree_copied, gl _ (by decide), ok_tCop J__law_tree_copied (gl "_law_tree_copied" (by decide)) LP 20, (J__law_tree_copied.bindsN fun _ _ _ _ _ _ us hl => match us, hl with | [_], _ => rfl)⟩⟩
  have W_law_one_of : Df P w K mg base 3 "_law_one_of" sOne ["_law_purse_here", "_law_some"] (spOneW K) := ⟨⟨_, _, J__law_one_of, gl _ (by decide), ok_oneW J__law_one_of L LD, (J__law_one_of.bindsN fun _ _ _ _ _ _ us hl => match us, hl with | [_, _], _ => rfl)⟩⟩
  have W_tree1 : Df P w K mg base 5 "_law_tree_of" sTreeOf ["_law_purse_here", "_law_names_here", "_law_deep"] (spTreeOf 1) := ⟨⟨_, _, J__law_tree_of, gl _ (by decide), ok_treeOf J__law_tree_of (gl "_law_tree_of" (by decide)) L LD W_law_one_of 1, (J__law_tree_of.bindsN fun _ _ _ _ _ _ us hl => match us, hl with | [_, _, _], _ => rfl)⟩⟩
  have W_tree2 : Df P w K mg base 6 "_law_tree_of" sTreeOf ["_law_purse_here", "_law_names_here", "_law_deep"] (spTreeOf 2) := ⟨⟨_, _, J__law_tree_of, gl _ (by decide), ok_treeOf J__law_tree_of (gl "_law_tree_of" (by decide)) L LD W_law_one_of 2, (J__law_tree_of.bindsN fun _ _ _ _ _ _ us hl => match us, hl with | [_, _, _], _ => rfl)⟩⟩
  have W_tree3 : Df P w K mg base 7 "_law_tree_of" sTreeOf ["_law_purse_here", "_law_names_here", "_law_deep"] (spTreeOf 3) := ⟨⟨_, _, J__law_tree_of, gl _ (by decide), ok_treeOf J__law_tree_of (gl "_law_tree_of" (by decide)) L LD W_law_one_of 3, (J__law_tree_of.bindsN fun _ _ _ _ _ _ us hl => match us, hl with | [_, _, _], _ => rfl)⟩⟩
  have W_on5 : Df P w K mg base 9 "_law_tree_on" sTreeOn ["_law_purse_here", "_law_field"] (spOn 5) := ⟨⟨_, _, J__law_tree_on, gl _ (by decide), ok_treeOn J__law_tree_on (gl "_law_tree_on" (by decide)) L LD LS W_law_one_of 5, (J__law_tree_on.bindsN fun _ _ _ _ _ _ us hl => match us, hl with | [_, _], _ => rfl)⟩⟩
  have W_on19 : Df P w K mg base 23 "_law_tree_on" sTreeOn ["_law_purse_here", "_law_field"] (spOn 19) := ⟨⟨_, _, J__law_tree_on, gl _ (by decide), ok_treeOn J__law_tree_on (gl "_law_tree_on" (by decide)) L LD LS W_law_one_of 19, (J__law_tree_on.bindsN fun _ _ _ _ _ _ us hl => match us, hl with | [_, _], _ => rfl)⟩⟩
  have W_law_rows_of : Df P w K mg base 4 "_law_rows_of" sRows ["_law_purse_here", "_law_names_here", "_law_many"] (spRowsW K) := ⟨⟨_, _, J__law_rows_of, gl _ (by decide), ok_rowsW J__law_rows_of L J__law_shuffled (gl "_law_shuffled" (by decide)) GS J__law_draw (gl "_law_draw" (by decide)) GD, (J__law_rows_of.bindsN fun _ _ _ _ _ _ us hl => match us, hl with | [_, _, _], _ => rfl)⟩⟩
  have W_law_drawn : Df P w K mg base 5 "_law_drawn" sDr2 ["_law_purse_here", "_law_most", "_law_stewards"] spDr2 := ⟨⟨_, _, J__law_drawn, gl _ (by decide), ok_dr2 J__law_drawn LP (fr "int" (by decide)) LD LN W_law_rows_of, (J__law_drawn.bindsN fun _ _ _ _ _ _ us hl => match us, hl with | [_, _, _], _ => rfl)⟩⟩
  have W_law_panel : Df P w K mg base 6 "_law_panel" sPanQ ["_law_names_here", "_law_rows"] (spPanR (ga K "Panel")) := ⟨⟨_, _, J__law_panel, gl _ (by decide), ok_panR J__law_panel LP T.pan.mkr gP I___init__ GIn, (J__law_panel.bindsN fun _ _ _ _ _ _ us hl => match us, hl with | [_, _], _ => rfl)⟩⟩
  have W_law_tree_right : DfG P w K mg base 27 "_law_tree_right" sTrR ["_law_panel_here", "_law_rows", "_law_tree"] (spTrR (ga K "Panel")) := ⟨⟨_, _, J__law_tree_right, gl _ (by decide), ok_trR J__law_tree_right L LP (fr "repr" (by decide)) LC W_copied W_goes W_fldin W_heats W_each W_field W_widest, (J__law_tree_right.bindsN fun _ _ _ _ _ _ us hl => match us, hl with | [_, _, _], _ => rfl)⟩⟩
  have W_law_kept_right : Df P w K mg base 27 "_law_kept_right" sKR ["_law_purse_here", "_law_names_here", "_law_rows", "_law_panel_here"] (spKR (ga K "Panel")) := ⟨⟨_, _, J__law_kept_right, gl _ (by decide), ok_kR J__law_kept_right L LC W_tree2 W_fldin W_hof W_heats W_each W_field, (J__law_kept_right.bindsN fun _ _ _ _ _ _ us hl => match us, hl with | [_, _, _, _], _ => rfl)⟩⟩
  have W_law_wide_right : DfG P w K mg base 28 "_law_wide_right" sWR ["_law_purse_here"] spWR := ⟨⟨_, _, J__law_wide_right, gl _ (by decide), ok_wR J__law_wide_right L LP LD W_law_rows_of LS W_law_panel W_on19 W_law_tree_right, (J__law_wide_right.bindsN fun _ _ _ _ _ _ us hl => match us, hl with | [_], _ => rfl)⟩⟩
  have W_law_others_right : DfG P w K mg base 28 "_law_others_right" sOR ["_law_purse_here", "_law_names_here", "_law_rows", "_law_panel_here"] (spOR (ga K "Panel")) := ⟨⟨_, _, J__law_others_right, gl _ (by decide), ok_oR J__law_others_right LP W_law_one_of W_law_tree_right LD W_law_rows_of W_tree3 W_law_panel, (J__law_others_right.bindsN fun _ _ _ _ _ _ us hl => match us, hl with | [_, _, _, _], _ => rfl)⟩⟩
  have W_law_stays : Df P w K mg base 6 "_law_stays" sStays ["_law_panel_here", "_law_names_here", "_law_rows"] (spStays (ga K "Panel")) := ⟨⟨_, _, J__law_stays, gl _ (by decide), ok_stays J__law_stays LP N DPl LF DCa LC, (J__law_stays.bindsN fun _ _ _ _ _ _ us hl => match us, hl with | [_, _, _], _ => rfl)⟩⟩
  exact ok_law J_law L LPS W_law_drawn W_law_panel W_tree3 W_tree1 W_fldin W_on5 W_heats W_law_tree_right W_law_kept_right LD LS W_law_wide_right W_law_others_right W_law_stays
end K24

set_option maxHeartbeats 0
open PySem PySem.W PySem.Calls PyProof.Rows
theorem PySem.Challenge.cw_cardpanel_k24_whole_trees_of_heats_holds : PySem.Challenge.rw_cardpanel_k24_whole_trees_of_heats.Holds := by
  w_on; o_law
  refine HandSHeadRun.head_any (r := K24.R) (q := view K24.R.prog [63]) (H := K24.hk) (ob := K24.ob) (M := 20000) (loose := K24.others) (d := HandSHeadRun.topDef K24.R.prog 63) (kwd := []) K24.ob_eq
    (by kernel_rfl) (fun s => by kernel_rfl) K24.run (by kernel_rfl) (by kernel_rfl) (by kernel_rfl) (by rfl) (by first | assumption | decide +kernel) (by decide +kernel) ⟨rfl, rfl, rfl, rfl, rfl, by decide +kernel⟩ ?hw ?hc
  case hw => w_witness2
  case hc =>
    refine G1.walk_ofG (l := PySem.Challenge.rw_cardpanel_k24_whole_trees_of_heats) (n := 63) (k := 29) (x := "_law_script") rfl (by decide) (by kernel_rfl) ⟨rfl, by decide, by decide⟩ ?F
    intro w mg fa h Y G hmg0
    obtain ⟨K, KX, c⟩ := Y
    have hmg : mg ("law" : PySem.Str) = some (.ref fa) := by
      have e : (HandSHeadRun.topDef K24.R.prog 63).name = ("law" : PySem.Str) := by kernel_rfl
      rw [← e]
      exact hmg0
    obtain ⟨fd, hb, hF⟩ := K24.law_of (P := PySem.Challenge.rw_cardpanel_k24_whole_trees_of_heats.prog) (w := w) KX G hmg c
    exact ⟨K, fd, K24.spLaw K, KX, hb, fun H a ns hl _ hS => ⟨a, ns, rfl, hS, fun _ => rfl⟩, hF⟩
