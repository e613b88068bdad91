import PyProof.Rows.All
import Wide.All
import OpenK.AllK
import Wide.FinOn
import HandS.ForMost
import HandS.ForExc
import HandS.IsInst
import HandS.Deep
import HandS.ExcInit
import HandS.ExcField
import HandS.ExcOwn
import KE.KExcIs
import HandS.ExcIs
import HandS.Lambda
import HandS.TupAny
import HandS.TupMul
import HandS.Walk
import HandS.Zip
import HandS.Style
import HandS.Iter
import HandS.Conv
import HandS.DictComp
import HandS.TupSets
import HandS.SortRule
import KE.DataFind
import KE.KDictList
import HandS.Hot
import HandS.HotCalls
import HandS.ExcInitHot
import HandS.More
import HandS.WordsExc
import HandS.ExcCtx
import PySem.Challenge.RW_linkneed_k28_whole_transfers_and_fewest
set_option Elab.async false
set_option linter.all false
set_option maxRecDepth 100000
set_option maxHeartbeats 2000000
namespace Lk
open PySem PySem.Spec PyProof.Rows L2
/-! ### heaps and data -/
theorem same_new {H : Hp} {p : Addr} (h : H p = none) (o : HO) : Same H (upd H p o) := fun b u q => by rw [upd_ne (ne_of_none q h)]; exact q
theorem same_del {H H' : Hp} (l : Addr) (e : Same H H') : Same (del H l) (del H' l) := fun b o q => by
  by_cases hb : b = l
  · subst hb; rw [del_same] at q; cases q
  · rw [del_ne hb] at q ⊢; exact e b o q
theorem del_le (H : Hp) (l : Addr) : Same (del H l) H := fun b o q => by
  by_cases hb : b = l
  · subst hb; rw [del_same] at q; cases q
  · rw [del_ne hb] at q; exact q
theorem del_upd (H : Hp) (l : Addr) (o : HO) : del (upd H l o) l = del H l := by
  funext b
  by_cases hb : b = l
  · subst hb; rw [del_same, del_same]
  · rw [del_ne hb, del_ne hb, upd_ne hb]
theorem same_eq {H H' : Hp} (e : H = H') : Same H H' := by subst e; exact Same.refl _
/-- what was tracked and is not at l -/
theorem Same.off {H H' : Hp} {l b : Addr} {o : HO} (e : Same (del H l) (del H' l)) (hb : b ≠ l) (h : H b = some o) : H' b = some o := by
  have q := e b o (by rw [del_ne hb]; exact h)
  rw [del_ne hb] at q
  exact q
theorem seqT_same {K : PySem.W.Frag} {H H' : Hp} {a : Addr} {xs : List V} (e : Same H H') (h : SqT K H a xs) : SqT K H' a xs := by
  rcases h with (h | ⟨o, h⟩) | h
  · exact .inl (.inl (e _ _ h))
  · exact .inl (.inr ⟨o, e _ _ h⟩)
  · exact .inr h
mutual
theorem dp_same {K : PySem.W.Frag} {H H' : Hp} (e : Same H H') : ∀ {v : V} {d : PyData}, Dp K H v d → Dp K H' v d
  | _, _, .non => .non
  | _, _, .bl b => .bl b
  | _, _, .int i => .int i
  | _, _, .str x => .str x
  | _, _, .lst h a => .lst (e.seq h) (dpAll_same e a)
  | _, _, .tup h a => .tup (seqT_same e h) (dpAll_same e a)
theorem dpAll_same {K : PySem.W.Frag} {H H' : Hp} (e : Same H H') : ∀ {vs : List V} {ds : List PyData}, DpAll K H vs ds → DpAll K H' vs ds
  | _, _, .nil => .nil
  | _, _, .cons a b => .cons (dp_same e a) (dpAll_same e b)
end
theorem same_mut {H H' : Hp} {p : Addr} {o : HO} (e : Same H H') (h : H p = none) : Same H (upd H' p o) := fun b u q => by
  rw [upd_ne (ne_of_none q h)]
  exact e b u q
theorem ifT {b : Bool} {A B : Prop} (e : b = true) (h : A) : if b = true then A else B := by subst e; exact iteT h
theorem ifF {b : Bool} {A B : Prop} (e : b = false) (h : B) : if b = true then A else B := by subst e; exact iteF h
theorem ite_both {c : Bool} {A B : Prop} (hB : B) (h : B → c = true → A) : if c = true then A else B := by
  cases c with
  | true => exact iteT (h hB rfl)
  | false => exact iteF hB
theorem dpAll_str {K : PySem.W.Frag} {H : Hp} : ∀ l : List Str, DpAll K H (l.map V.str) (l.map PyData.str)
  | [] => .nil
  | x :: r => .cons (.str x) (dpAll_str r)
def iV (ns : List Int) : List V := ns.map V.int
theorem iV_len (ns : List Int) : (iV ns).length = ns.length := List.length_map _
theorem iV_app (ns : List Int) (i : Int) : iV ns ++ [V.int i] = iV (ns ++ [i]) := by unfold iV; rw [List.map_append]; rfl
theorem iV_get {ns : List Int} {j : Nat} {y : V} (h : (iV ns)[j]? = some y) : ∃ i, ns[j]? = some i ∧ y = .int i := by
  unfold iV at h
  rw [List.getElem?_map] at h
  cases e : ns[j]? with
  | none => rw [e] at h; cases h
  | some i => rw [e] at h; exact ⟨i, rfl, (Option.some.inj h).symm⟩
theorem szl {n : Nat} (h : n ≤ 1000000) : n < sizeLine := Nat.lt_of_le_of_lt h (by decide)
/-! ### kinds of data -/
def tyN : PyData → String
  | .none => "NoneType"
  | .bool _ => "bool"
  | .int _ => "int"
  | .str _ => "str"
  | .list _ => "list"
  | .tuple _ => "tuple"
  | .dict _ => "dict"
def isI : PyData → Bool
  | .int _ => true
  | _ => false
def isB : PyData → Bool
  | .bool _ => true
  | _ => false
def isN : PyData → Bool
  | .int i => decide (0 ≤ i)
  | _ => false
def isW : PyData → Bool
  | .int i => decide (0 ≤ i) && decide (i < 65536)
  | _ => false
theorem ty_of {K : PySem.W.Frag} {H : Hp} {v : V} {d : PyData} (h : Dp K H v d) : TyX K H v (.type (tyN d)) := by
  cases h with
  | non => exact .base .non
  | bl b => exact .base (.bl b)
  | int i => exact .base (.int i)
  | str x => exact .base (.str x)
  | lst h a =>
    rcases h with (h | ⟨o, h⟩) | ⟨o, its, n, h, hc, _⟩
    · exact .base (.lst h)
    · exact .base (.frz h)
    · exact .kList h hc
  | tup h a =>
    rcases h with (h | ⟨o, h⟩) | ⟨o, its, n, h, hc, _⟩
    · exact .base (.tup h)
    · exact .fTuple h
    · exact .kTuple h hc
theorem no_dict {K : PySem.W.Frag} {H : Hp} {v : V} {kvs : List (PyData × PyData)} (h : Dp K H v (.dict kvs)) : False := by cases h
theorem kit_int {K : PySem.W.Frag} {H : Hp} {v : V} {d : PyData} (h : Dp K H v d) : PySem.W.kitOne K (.type (tyN d)) (.type "int") = some (isI d || isB d) := by
  cases h with
  | non => exact kit_ty (a := "NoneType") (b := "int") (r := false) (by decide +kernel)
  | bl b => exact kit_ty (a := "bool") (b := "int") (r := true) (by decide +kernel)
  | int i => exact kit_ty (a := "int") (b := "int") (r := true) (by decide +kernel)
  | str x => exact kit_ty (a := "str") (b := "int") (r := false) (by decide +kernel)
  | lst h a => exact kit_ty (a := "list") (b := "int") (r := false) (by decide +kernel)
  | tup h a => exact kit_ty (a := "tuple") (b := "int") (r := false) (by decide +kernel)
theorem kit_bool {K : PySem.W.Frag} {H : Hp} {v : V} {d : PyData} (h : Dp K H v d) : PySem.W.kitOne K (.type (tyN d)) (.type "bool") = some (isB d) := by
  cases h with
  | non => exact kit_ty (a := "NoneType") (b := "bool") (r := false) (by decide +kernel)
  | bl b => exact kit_ty (a := "bool") (b := "bool") (r := true) (by decide +kernel)
  | int i => exact kit_ty (a := "int") (b := "bool") (r := false) (by decide +kernel)
  | str x => exact kit_ty (a := "str") (b := "bool") (r := false) (by decide +kernel)
  | lst h a => exact kit_ty (a := "list") (b := "bool") (r := false) (by decide +kernel)
  | tup h a => exact kit_ty (a := "tuple") (b := "bool") (r := false) (by decide +kernel)
theorem isI_int {K : PySem.W.Frag} {H : Hp} {v : V} {d : PyData} (h : Dp K H v d) (e : isI d = true) : ∃ i, v = .int i ∧ d = .int i := by
  cases h <;> first | exact ⟨_, rfl, rfl⟩ | cases e
theorem dp_get {K : PySem.W.Frag} {H : Hp} : ∀ {vs : List V} {ds : List PyData} {i : Nat} {v : V}, DpAll K H vs ds → vs[i]? = some v → ∃ d, d ∈ ds ∧ ds[i]? = some d ∧ Dp K H v d
  | _, _, _, _, .nil, e => by simp at e
  | _, _, 0, _, .cons a b, e => by
    simp at e
    subst e
    exact ⟨_, List.mem_cons_self .., rfl, a⟩
  | _, _, i + 1, _, .cons a b, e => by
    obtain ⟨d, h1, h2, h3⟩ := dp_get b (i := i) (by simpa using e)
    exact ⟨d, List.mem_cons_of_mem _ h1, by simpa using h2, h3⟩
theorem dp_len {K : PySem.W.Frag} {H : Hp} : ∀ {vs : List V} {ds : List PyData}, DpAll K H vs ds → vs.length = ds.length
  | _, _, .nil => rfl
  | _, _, .cons a b => by simp [dp_len b]
theorem dp_at {K : PySem.W.Frag} {H : Hp} {vs : List V} {ds : List PyData} {r : Int} (h : DpAll K H vs ds) (h0 : 0 ≤ r) (h1 : r < (ds.length : Int)) : ∃ v d, atI vs r = some v ∧ d ∈ ds ∧ ds[r.toNat]? = some d ∧ Dp K H v d := by
  obtain ⟨n, rfl⟩ : ∃ n : Nat, r = (n : Int) := ⟨r.toNat, by omega⟩
  have hl := dp_len h
  have hn : n < vs.length := by omega
  obtain ⟨d, m, e, q⟩ := dp_get h (List.getElem?_eq_getElem hn)
  exact ⟨vs[n], d, atI_nat (List.getElem?_eq_getElem hn), m, by simpa using e, q⟩
theorem PS.as {X : Cx} {st : Stmt} {t : TS} (t' : TS) (h : L2.PS X st t) (e : t = t' := by rfl) : L2.PS X st t' := e ▸ h
theorem passAt0 {X : Cx} : ∀ σ, PassesAt CX0 X σ ((fun _ => E0) σ) := fun _ _ _ _ _ _ _ h => h.elim
/-! ### in and not in of tuples, items of any depth -/
section
variable {X : Cx}
def rInU (K : PySem.W.Frag) (neg : Bool) : R2 := fun x y H Q => ∃ d ds, Dp K H x d ∧ Dp K H y (.tuple ds) ∧ SeqAt.shaped d = true ∧ SeqAt.shaped (.tuple ds) = true ∧ Q (.bl (if neg then !(ds.any fun z => PyData.eqv z d) else ds.any fun z => PyData.eqv z d)) H
theorem op_inU (hu : X.A.units + 65 < cLine) : OpR X (compareOp .In) (rInU X.K false) := by
  rintro ps₁ s₁ τ G a b va vb R J ra rb ⟨da, db, ha, hb, sa, sb, q⟩
  have ⟨_, w1⟩ := Dp.reads J da a va ha ra
  have ⟨_, w2⟩ := Dp.reads J (.tuple db) b vb hb rb
  exact SeqAt.in_tuple_reads w2 w1 (SeqAt.canLay_of_shaped sb) (SeqAt.canLay_of_shaped sa) (room_in_shaped sa hu) ⟨.bl _, G, J, rfl, q⟩
theorem op_notInU (hu : X.A.units + 65 < cLine) : OpR X (compareOp .NotIn) (rInU X.K true) := by
  rintro ps₁ s₁ τ G a b va vb R J ra rb ⟨da, db, ha, hb, sa, sb, q⟩
  have ⟨_, w1⟩ := Dp.reads J da a va ha ra
  have ⟨_, w2⟩ := Dp.reads J (.tuple db) b vb hb rb
  exact SeqAt.notIn_tuple_reads w2 w1 (SeqAt.canLay_of_shaped sb) (SeqAt.canLay_of_shaped sa) (room_in_shaped sa hu) ⟨.bl _, G, J, rfl, q⟩
/-! ### f(k = v, ..), keywords alone; it may raise, in a try -/
variable {CX : CXT} {k : Nat} {f : Addr} {fd : FuncData} {ps ks : List Str} {sp : Sp} {E : L2.St → XK} {x : Str} {p pos : Pos} {kws : List Keyword} {tk : TA}
  {g : List Value → List Value → List Value} {gV : List V → List V → List V}
def tCallKS (sp : Sp) (gV : List V → List V → List V) (E : L2.St → XK) (tk : TA) : TE := fun σ H Q => tk σ H fun zs H2 => sp (gV [] zs) H2 Q (E σ)
theorem run_fnkS {pins : List (Addr × Obj)} {σ : L2.St} {H : Hp} {s : Shared} {Q : VK} {us ws : List Value} {vs zs : List V} (F : FnOk X.prog X.w X.K X.mg X.base CX k f fd ps sp) (hr : Room k X.A) (hb : KBinds X.K fd ps ks g gV) (hx : PassesAt CX X σ (E σ))
    (I : Inv X pins σ H s) (r : Vals vs us) (rz : Vals zs ws) (h : sp (gV vs zs) H Q (E σ)) : wpAny (model X.prog X.w) X.A (call (.ref f) us (ks.zip ws)) (EP X pins σ Q) X.xe s := by
  have rr := hb.rel r rz
  have len : (g us ws).length = ps.length := rr.length ▸ F.len _ _ _ _ h
  refine wpAny_call (codeAny_mono (F.run X.A X.stack s H ⟨us, ks.zip ws⟩ (g us ws) (gV vs zs) Q (E σ) hr I.env0 (hb.to s us ws I.kIn len) rr h) fun o s₂ ho => ?_)
  match o, ho with
  | .error e, ho => exact hx pins H s e s₂ I ho
  | .ok (.ret _), ho => exact I.after ho
  | .ok .next, ho => exact ho.elim
  | .ok .brk, ho => exact ho.elim
  | .ok .cont, ho => exact ho.elim
theorem pe_callKS (F : FnOk X.prog X.w X.K X.mg X.base CX k f fd ps sp) (hr : Room k X.A) (hg : Gl X x) (hm : X.mg x = some (.ref f)) (hk : PySem.W.keepIn X.K (.ref f) = true) (hb : KBinds X.K fd ps ks g gV) (hx : ∀ σ, PassesAt CX X σ (E σ))
    (hkw : PK X kws tk) (hall : (backToKw pos (keywordEach kws X.env)).all (·.1.isSome) = true := by rfl) (hks : (backToKw pos (keywordEach kws X.env)).filterMap (·.1) = ks := by rfl)
    (hdb : (x == ("__debug__" : Str)) = false := by decide)
    (hpl : ((backTo pos (starEach [] X.env)).any (·.1) || (backToKw pos (keywordEach kws X.env)).any (·.1.isNone)) = false := by rfl) :
    PE X (.Call (.Name x p) [] kws pos) (tCallKS sp gV E tk) := by
  refine ⟨fun pins s σ H Q I h => ?_⟩
  refine wpAny_Call_Name_kw (ld_glob I hg hm ?_ hdb)
  refine PySem.W.callWith_KW0 (M := model X.prog X.w) (h₀ := X.base) I.ok.mod.kin hk hall ?_ hpl
  refine thn (hkw.run pos pins s σ H _ I h) fun ws s2 ⟨zs, H2, I2, rz, q2⟩ => ⟨I2.kIn, ?_⟩
  rw [hks]
  exact run_fnkS (us := []) (vs := []) F hr hb (hx σ) I2 .nil rz q2
/-! ### isinstance of the error that a suite holds, an own class's instance with fields -/
structure ExcK (K : PySem.W.Frag) (C : Addr) : Prop where
  hc : (PySem.W.clsIn K C).isSome = true
  hg : PySem.W.findIn K (.ref C) "__getattribute__" = some (some (.builtin "BaseException.__getattribute__"))
  hk : PySem.W.findIn K (.ref C) "__getattr__" = some none
  hs : PySem.W.subIn K (.ref C) (.type "BaseException") = some true
  ha : PySem.W.findIn K (.ref C) "__class__" = some (some (.builtin "object.__class__"))
  hn : PySem.W.specialIn K (.builtin "object.__class__") "__get__" = some (some (.builtin "getset_descriptor.__get__"))
  ht : PySem.W.takesIn K (.builtin "object.__class__") = some true
  hm : PySem.W.mroIn K C (.type "object") = some true
def rIsX (K : PySem.W.Frag) (a : Addr) (cls : Value) (d : Option Addr) : List V → Hp → VK → Prop := fun xs H Q => ∃ (C dd : Addr) (fs : List (Str × V)) (c : V) (u : Value) (b : Bool),
  cls = .ref C ∧ d = some dd ∧ H dd = some (.xd fs) ∧ ExcK K C ∧ xs = [.ref a, c] ∧ ClsV c u ∧ PySem.W.kitOne K (.ref C) u = some b ∧ Q (.bl b) H
def rIsXT (K : PySem.W.Frag) (a : Addr) (cls : Value) (d : Option Addr) : List V → Hp → VK → Prop := fun xs H Q => ∃ (C dd : Addr) (fs : List (Str × V)) (tp : Addr) (cs : List V) (us : List Value) (b : Bool),
  cls = .ref C ∧ d = some dd ∧ H dd = some (.xd fs) ∧ ExcK K C ∧ xs = [.ref a, .ref tp] ∧ H tp = some (.tup cs) ∧ Paired ClsV cs us ∧ PySem.W.kitAny K (.ref C) us = some b ∧ Q (.bl b) H
theorem inst_x {a C dd : Addr} {fs : List (Str × V)} {cls : Value} {d : Option Addr} {oe : Obj} {pn pins : List (Addr × Obj)} {σ : L2.St} {H : Hp} {s : Shared} (hz : Zc cls d oe) (hf : ∃ vs, oe.data = .fields vs) (I : Inv (X.suite a ((a, oe) :: pn)) pins σ H s) (e1 : cls = .ref C) (e2 : d = some dd) (e3 : H dd = some (.xd fs)) :
    ∃ od, PySem.W.InstAt s.heap a oe C od := by
  subst e1 e2
  have ⟨hget, _⟩ := I.pin (a, oe) (List.mem_append_left _ List.mem_cons_self)
  have ⟨vs, hd⟩ := hf
  have ⟨_, hns, _⟩ := (show ObjOk X.prog X.w H s.heap dd (.xd fs) from I.hok dd _ e3)
  have ⟨od, ho, _⟩ := lookIn_ns hns
  exact ⟨some od, ⟨hget, hz.1, by unfold PySem.W.notCls; rw [hd] <;> rfl, by rw [hz.2]; exact ho⟩⟩
theorem call_isX {a : Addr} {cls : Value} {d : Option Addr} {oe : Obj} {pn : List (Addr × Obj)} (hz : Zc cls d oe) (hf : ∃ vs, oe.data = .fields vs) : CallR (X.suite a ((a, oe) :: pn)) (.builtin "isinstance") (rIsX X.K a cls d) := by
  rintro ps₁ s₁ τ G xs us R J r ⟨C, dd, fs, c, u, b, e1, e2, e3, T, rfl, k, e, q⟩
  have ⟨v1, v2, ev, w1, w2⟩ := vals2 r
  subst ev
  have ec := k.eq w2
  subst ec
  obtain rfl : v1 = Value.ref a := w1
  have ⟨od, at_⟩ := inst_x hz hf J e1 e2 e3
  exact PySem.W.kia_one (PySem.W.kitx_exc T.hc T.hg T.hk T.hs T.ha T.hn T.ht T.hm) J.kIn at_ e (fun z => nomatch z) fun tk => ⟨.bl b, G, J.tok tk, rfl, q⟩
theorem call_isXT {a : Addr} {cls : Value} {d : Option Addr} {oe : Obj} {pn : List (Addr × Obj)} (hz : Zc cls d oe) (hf : ∃ vs, oe.data = .fields vs) : CallR (X.suite a ((a, oe) :: pn)) (.builtin "isinstance") (rIsXT X.K a cls d) := by
  rintro ps₁ s₁ τ G xs us R J r ⟨C, dd, fs, tp, cs, ws, b, e1, e2, e3, T, rfl, hT, k, e, q⟩
  have ⟨v1, v2, ev, w1, w2⟩ := vals2 r
  subst ev
  obtain rfl : v2 = Value.ref tp := w2
  obtain rfl : v1 = Value.ref a := w1
  have ⟨od, at_⟩ := inst_x hz hf J e1 e2 e3
  obtain ⟨_, its, rv, ⟨oc, od', dt, sl⟩, g1, g2, n, g3⟩ : ObjOk X.prog X.w G s₁.heap tp (.tup cs) := J.hok tp _ hT
  have ew := ClsV.all k rv
  subst ew
  obtain rfl : oc = .type "tuple" := g2
  obtain rfl : dt = _ := g3
  exact PySem.W.kia_tup (PySem.W.kitx_exc T.hc T.hg T.hk T.hs T.ha T.hn T.ht T.hm) J.kIn at_ g1 e (fun z => nomatch z) fun tk => ⟨.bl b, G, J.tok tk, rfl, q⟩
end
end Lk

set_option Elab.async false
set_option linter.all false
set_option maxRecDepth 100000
set_option maxHeartbeats 2000000
namespace Lk
open PySem PySem.Spec PyProof.Rows L2
theorem deeper_guards (A : Around) (e : Env) : (A.deeper e).guards = A.guards := rfl
/-- a def's promise, where no repr is under way -/
structure FnG (P : Program) (w : World) (K : PySem.W.Frag) (mg : Str → Option Value) (base : Heap) (CX : CXT) (k : Nat) (f : Addr) (fd : FuncData) (ps : List Str) (sp : Sp) : Prop where
  len : ∀ vs H Q E, sp vs H Q E → vs.length = ps.length
  run : ∀ (A : Around) (outer : List Env) (s : Shared) (H : Hp) (args : Args) (us : List Value) (vs : List V) (Q : VK) (E : XK),
    A.guards = some [] → Room k A → Env0 P w K mg base A outer s H → BindsTo s fd args (ps.zip us) → Vals vs us → sp vs H Q E →
      codeAny (model P w) A (.call (.ref f) args) (CR CX outer P w H s Q E) s
section
variable {P : Program} {w : World} {K : PySem.W.Frag} {mg : Str → Option Value} {base : Heap} {CX : CXT}
theorem FnG.mono {j k : Nat} {f : Addr} {fd : FuncData} {ps : List Str} {sp : Sp} (F : FnG P w K mg base CX j f fd ps sp) (h : j ≤ k) : FnG P w K mg base CX k f fd ps sp :=
  ⟨F.len, fun A outer s H args us vs Q E g hr => F.run A outer s H args us vs Q E g (hr.mono h)⟩
theorem FnG.of {k : Nat} {f : Addr} {fd : FuncData} {ps : List Str} {sp : Sp} (F : FnOk P w K mg base CX k f fd ps sp) : FnG P w K mg base CX k f fd ps sp :=
  ⟨F.len, fun A outer s H args us vs Q E _ hr => F.run A outer s H args us vs Q E hr⟩
theorem okG {x qual : Str} {st : Stmt} {f : Addr} {fd : FuncData} {N ps : List Str} {k : Nat} {sp : Sp} (F : Fun K x qual st f fd) (S : FnScope N ps (defScope st)) (len : ∀ vs H Q E, sp vs H Q E → vs.length = ps.length)
    (body : ∀ (cdv : Value) (A : Around) (outer : List Env) (s : Shared) (H : Hp) (vs : List V) (Q : VK) (E : XK), A.guards = some [] → Room k (A.deeper (envOfC qual (defScope st) s.heap.objs.size f cdv)) → sp vs H Q E →
      ∃ t, PSs (cxOf CX0 P w K mg base N qual (defScope st) f cdv A outer s H E).nox (defBody st) t ∧ t { nx := fun _ H' => Q .non H', rt := Q } (L2.start N vs) H) :
    FnG P w K mg base CX0 (k + 1) f fd ps sp := by
  obtain ⟨oc, od, kV, doc, pm, an, cdv, ct, osl, e, lk, hc⟩ := F.ex
  subst e
  refine ⟨len, fun A outer s H args us vs Q E g hr e0 hb r hsp => ?_⟩
  refine LamX.run_ofS lk hc S hr e0 hb r (len _ _ _ _ hsp) fun hr2 => ?_
  obtain ⟨t, h1, h2⟩ := body cdv A outer s H vs Q E g hr2 hsp
  exact ⟨t, h1.nox, h2⟩
end
section
variable {X : Cx} {CX : CXT} {k : Nat} {f : Addr} {fd : FuncData} {ps : List Str} {sp : Sp} {E : XK} {x : Str} {p pos : Pos} {e : Expr} {es : List Expr} {t : TA} {ds : List Value} {dvs : List V}
theorem run_fnG {pins : List (Addr × Obj)} {σ : L2.St} {H : Hp} {s : Shared} {Q : VK} {us : List Value} {vs : List V} (F : FnG X.prog X.w X.K X.mg X.base CX k f fd ps sp) (gu : X.A.guards = some []) (hr : Room k X.A) (hb : Binds X.K fd ps ds) (hd : Vals dvs ds)
    (hx : Passes CX X E) (I : Inv X pins σ H s) (r : Vals vs us) (h : sp (vs ++ dvs) H Q E) : wpAny (model X.prog X.w) X.A (call (.ref f) us) (EP X pins σ Q) X.xe s := by
  have rr := r.append hd
  have ln : (us ++ ds).length = ps.length := rr.length ▸ F.len _ _ _ _ h
  have c := F.run X.A X.stack s H ⟨us, []⟩ (us ++ ds) (vs ++ dvs) Q E gu hr I.env0 (hb s us I.kIn ln) rr h
  refine wpAny_call (codeAny_mono c fun o s2 ho => ?_)
  match o, ho with
  | .error er, ho => exact hx pins σ H s er s2 I ho
  | .ok (.ret _), ho => exact I.after ho
  | .ok .next, ho => exact ho.elim
  | .ok .brk, ho => exact ho.elim
  | .ok .cont, ho => exact ho.elim
theorem pe_callG (F : FnG X.prog X.w X.K X.mg X.base CX k f fd ps sp) (gu : X.A.guards = some []) (hr : Room k X.A) (hg : Gl X x) (hm : X.mg x = some (.ref f)) (hk : PySem.W.keepIn X.K (.ref f) = true) (hb : Binds X.K fd ps ds) (hd : Vals dvs ds) (hx : Passes CX X E)
    (ha : PA X (e :: es) t) (hdb : (x == ("__debug__" : Str)) = false := by decide) (he : starEach (e :: es) X.env = (false, eval e X.env) :: starEach es X.env := by rfl) (hpl : (backTo pos (starEach es X.env)).any (·.1) = false := by rfl) :
    PE X (.Call (.Name x p) (e :: es) [] pos) (tCall sp dvs E t) :=
  ⟨fun pins s σ H Q I h => wpAny_Call_Name_kw (ld_glob I hg hm (PySem.W.callWith_K (h₀ := X.base) I.ok.mod.kin hk
    (thn (ha.run pos pins s σ H _ I h) fun us s1 ⟨vs, H1, I1, r, q⟩ => ⟨I1.kIn, run_fnG F gu hr hb hd hx I1 r q⟩) he hpl) hdb)⟩
end
/-! ### repr of data -/
def rRepr (K : PySem.W.Frag) : List V → Hp → VK → Prop := fun xs H Q => ∃ (x : V) (d : PyData), xs = [x] ∧ Dp K H x d ∧ isDisplay d = true ∧ d.showable = true ∧ d.hasDict = false ∧ d.depth ≤ 100 ∧ d.shown.length ≤ sizeLine ∧ Q (.str d.shown) H
theorem call_reprD {X : Cx} (gu : X.A.guards = some []) (hu : X.A.units + 200 < cLine) : CallR X (.builtin "repr") (rRepr X.K) := by
  intro pins s σ H xs us Q I r h
  obtain ⟨x, d, e, hd, i, sh, nd, dp, sz, q⟩ := h
  subst e
  obtain ⟨u, e, rx⟩ := vals1 r
  subst e
  obtain ⟨as, rd⟩ := hd.reads I d x u rx
  obtain ⟨a, e⟩ := isRef_of_reads rd i
  subst e
  refine repr_of_reads' rd sh (PyData.noDict_hsm nd) gu (by omega) (fun _ _ z => z) (fun h' t k z => ?_) sz
  exact ⟨.str d.shown, H, I.kept (t' := k) z, ⟨t, rfl⟩, q⟩
end Lk

set_option Elab.async false
set_option linter.all false
set_option maxRecDepth 100000
set_option maxHeartbeats 2000000
namespace Lk
open PySem PySem.Spec PyProof.Rows L2
/-! ### the end of a law whose def is promised where no repr is under way -/
def Fine (s₁ : Shared) : Result → Shared → Prop := fun r s' => r = .ok (.ret (.bool true)) ∧ OldK s₁.heap s'.heap ∧ s'.os = s₁.os ∧ AllBare s'.gens
section
variable {P : Program} {w : World} {K : PySem.W.Frag} {mg mb : Str → Option Value} {CX : CXT} {k : Nat} {fa a : Addr} {fd : FuncData} {x : Str} {sp : Sp} {s₁ : Shared} {vs : List Value} {ns : List Int}
/-- what is tracked at the start: nothing, or the script alone -/
structure Begin (P : Program) (w : World) (K : PySem.W.Frag) (H : Hp) (h : Heap) (a : Addr) : Prop where
  only : Only H
  good : HOk P w H h
  one : ∀ b, H b ≠ none → b = a
  out : H a ≠ none → K.lookup a = none
theorem Begin.sees {H : Hp} (B : Begin P w K H s₁.heap a) (ha : s₁.heap.get? a = some { cls := .type "list", data := .seq vs.toArray }) {b : Addr} {m : Str → Option Value} (n : s₁.heap.Ns b m) : (hidT s₁.heap H).Ns b m := by
  obtain ⟨o, es, ep, e, d, r⟩ := n
  cases q : H b with
  | none => exact ⟨o, es, ep, hidT_get e q, d, r⟩
  | some u =>
    have z := B.one b (by rw [q]; exact fun y => nomatch y)
    subst z
    rw [ha] at e
    obtain rfl := Option.some.inj e
    exact nomatch d
theorem Begin.keeps {H : Hp} (B : Begin P w K H s₁.heap a) (KX : K.In s₁.heap) : K.In (hidT s₁.heap H) := fun b o e => by
  refine hidT_get (KX b o e) ?_
  cases q : H b with
  | none => rfl
  | some u =>
    have y : H b ≠ none := by rw [q]; exact fun y => nomatch y
    have z := B.one b y
    subst z
    rw [B.out y] at e
    exact nomatch e
theorem Begin.goes {H : Hp} (B : Begin P w K H s₁.heap a) (KX : K.In s₁.heap) (hns : s₁.heap.Ns mainGlobals mg) (hb : s₁.heap.Ns builtinsNs mb) (hbb : ∀ x : Str, x ≠ "__name__" → mb x = bootBuiltins x) (hlim : s₁.heap.NoLimit) (hg : s₁.gens = #[])
    (ha : s₁.heap.get? a = some { cls := .type "list", data := .seq vs.toArray }) (hr : Room k callerA)
    (F : ∀ base : Heap, K.In base → base.Ns mainGlobals mg → FnG P w K mg base CX k fa fd [x] sp) (bind : ∀ (s : Shared) (u : Value), BindsTo s fd ⟨[u], []⟩ [(x, u)])
    (hsp : sp [.ref a] H (fun v _ => v = .bl true) fun _ _ _ => False) (hCX : ∀ H e s', CX [] H s₁ (fun _ _ _ => False) e s' → False) : codeAny (model P w) callerA (.call (.ref fa) ⟨[.ref a], []⟩) (Fine s₁) s₁ := by
  obtain ⟨mc, l1, l2⟩ := hlim
  have M : Mod K mg (hidT s₁.heap H) := ⟨B.keeps KX, B.sees ha hns, ⟨mb, B.sees ha hb, hbb⟩, mc, B.sees ha l1, l2⟩
  have e0 : Env0 P w K mg (hidT s₁.heap H) callerA [] s₁ H := by
    refine ⟨rfl, M, fun b o e => of_hidT e, ?_, trivial, fun b z => ?_, B.good, .of_eq hg⟩
    · rw [hidT_size]; exact Nat.le_refl _
    · exact nomatch (show b ∈ ([] : List Addr) from z)
  have c := (F _ (B.keeps KX) (B.sees ha hns)).run callerA [] s₁ H ⟨[.ref a], []⟩ [.ref a] [.ref a] _ _ rfl hr e0 (bind s₁ (.ref a)) (.cons rfl .nil) hsp
  refine codeAny_mono c fun r s' z => ?_
  match r, z with
  | .error e, z => exact (hCX H e s' z).elim
  | .ok .next, z => exact z.elim
  | .ok .brk, z => exact z.elim
  | .ok .cont, z => exact z.elim
  | .ok (.ret u), z =>
    obtain ⟨v, H', os, bare, un, good', rv, q⟩ := z
    obtain rfl : v = .bl true := q
    obtain rfl : u = Value.bool true := rv
    refine ⟨rfl, OldK.of_keep fun b o e => ?_, os, bare⟩
    rcases B.only b with y | ⟨ob, xs, y⟩
    · exact un.keep b o e y (fun t => nomatch (show b ∈ ([] : List Addr) from t)) (fun t => nomatch t)
    · have y2 := un.frzs b ob _ y
      have g1 := (B.good b _ y).1
      have g2 := (good' b _ y2).1
      rw [e] at g1
      obtain rfl := Option.some.inj g1
      exact g2
theorem law_go (KX : K.In s₁.heap) (hns : s₁.heap.Ns mainGlobals mg) (hb : s₁.heap.Ns builtinsNs mb) (hbb : ∀ x : Str, x ≠ "__name__" → mb x = bootBuiltins x) (hlim : s₁.heap.NoLimit) (hg : s₁.gens = #[])
    (ha : s₁.heap.get? a = some { cls := .type "list", data := .seq vs.toArray }) (hi : IntsAre vs ns) (hl : ns.length ≤ sizeLine) (hr : Room k callerA)
    (F : ∀ base : Heap, K.In base → base.Ns mainGlobals mg → FnG P w K mg base CX k fa fd [x] sp) (bind : ∀ (s : Shared) (u : Value), BindsTo s fd ⟨[u], []⟩ [(x, u)])
    (hsp : ∀ H : Hp, Only H → SqL K H a (ns.map V.int) → sp [.ref a] H (fun v _ => v = .bl true) fun _ _ _ => False) (hCX : ∀ H e s', CX [] H s₁ (fun _ _ _ => False) e s' → False) : codeAny (model P w) callerA (.call (.ref fa) ⟨[.ref a], []⟩) (Fine s₁) s₁ := by
  have vi := vals_ints hi
  by_cases hk : K.lookup a = none
  · let H : Hp := fun b => if b = a then some (.frz { cls := .type "list", data := .seq vs.toArray } (.lst (ns.map V.int))) else none
    have ya : H a = some (.frz { cls := .type "list", data := .seq vs.toArray } (.lst (ns.map V.int))) := if_pos rfl
    have yb : ∀ b, b ≠ a → H b = none := fun b z => if_neg z
    have B : Begin P w K H s₁.heap a := by
      refine ⟨fun b => ?_, fun b u z => ?_, fun b z => ?_, fun _ => hk⟩
      · by_cases y : b = a
        · subst y; exact .inr ⟨_, _, ya⟩
        · exact .inl (yb b y)
      · by_cases y : b = a
        · subst y
          rw [ya] at z
          obtain rfl := Option.some.inj z
          exact ⟨ha, by rw [List.length_map]; exact hl, vs, _, vi, ha⟩
        · rw [yb b y] at z; exact nomatch z
      · by_cases y : b = a
        · exact y
        · exact absurd (yb b y) z
    exact B.goes KX hns hb hbb hlim hg ha hr F bind (hsp H B.only (.inl (.inr ⟨_, ya⟩))) hCX
  · obtain ⟨o, ho⟩ := Option.ne_none_iff_exists'.mp hk
    have e := KX a o ho
    rw [ha] at e
    obtain rfl := Option.some.inj e
    have B : Begin P w K (fun _ => none) s₁.heap a := ⟨fun _ => .inl rfl, fun _ _ z => (nomatch z), fun _ z => absurd rfl z, fun z => absurd rfl z⟩
    refine B.goes KX hns hb hbb hlim hg ha hr F bind (hsp _ B.only (.inr ⟨_, vs.toArray, _, ho, rfl, rfl, rfl, ?_, ?_⟩)) hCX
    · rw [List.size_toArray, hi.length]; exact hl
    · exact vi
end
/-- the goal that k_head leaves (case hc) -/
theorem walk_go {l : PySem.W.OpenLaw} {n k : Nat} {q : Program} {loose : List Str} {XP : (Str → Option Value) → Heap → Prop} {YP : World → Heap → Prop} {d : DefRec} {K : Params → PySem.W.Frag} {CX : CXT} {sp : PySem.W.Frag → Sp} {x : Str}
    (hn : l.most = some n) (hn2 : n ≤ sizeLine) (hdf : d.params.defaults = []) (hr : Room k callerA) (hY : ∀ (w : World) (h : Heap), YP w h → (K w.params).In h)
    (F : ∀ (w : World) (mg : Str → Option Value) (fa : Addr) (h : Heap), (K w.params).In h → h.Ns mainGlobals mg → mg d.name = some (.ref fa) →
      ∃ fd : FuncData, (∀ (s : Shared) (u : Value), BindsTo s fd ⟨[u], []⟩ [(x, u)]) ∧ ∀ base : Heap, (K w.params).In base → base.Ns mainGlobals mg → FnG l.prog w (K w.params) mg base CX k fa fd [x] (sp (K w.params)))
    (hsp : ∀ (K : PySem.W.Frag) (H : Hp) (a : Addr) (ns : List Int), ns.length ≤ n → Only H → SqL K H a (ns.map V.int) → sp K [.ref a] H (fun v _ => v = .bl true) fun _ _ _ => False)
    (hCX : ∀ (H : Hp) (s : Shared) (e : Value) (s' : Shared), CX [] H s (fun _ _ _ => False) e s' → False) : PySem.W.WalkO q loose XP YP l.row.toRowW d [] (fun f vs => PySem.call f vs) := by
  refine Att.attach_call hn hdf fun w s₀ s₁ mg mb fa o pm cd doc a vs ns G Y ho hd hcd hmg hobj hints hlen hg => ?_
  obtain ⟨fd, hb, hF⟩ := F w mg fa _ (hY w _ Y) G.T.g hmg
  exact law_go (hY w _ Y) G.T.g G.T.b G.T.builtins G.T.nolimit hg hobj hints (Nat.le_trans hlen hn2) hr hF hb (fun H hO hS => hsp (K w.params) H a ns hlen hO hS) fun H e s' => hCX H s₁ e s'
end Lk

set_option Elab.async false
set_option linter.all false
set_option maxRecDepth 100000
set_option maxHeartbeats 2000000
namespace Lk
open PySem PySem.Spec PyProof.Rows L2
/-! ### tuples: what comes stands at some place -/
section
variable {X : Cx}
def rCatS (K : PySem.W.Frag) : R2 := fun x y H Q => ∃ a b xs ys, x = .ref a ∧ y = .ref b ∧ SqT K H a xs ∧ SqT K H b ys ∧ xs.length + ys.length ≤ sizeLine ∧ ∀ p H', Same H H' → SqT K H' p (xs ++ ys) → Q (.ref p) H'
theorem op_catS : OpR X (binaryOp .Add) (rCatS X.K) := by
  intro pins s σ H x y v u Q I rx ry h
  obtain ⟨a, b, xs, ys, ex, ey, ha, hb, hz, q⟩ := h
  refine op_catA pins s σ H x y v u Q I rx ry ⟨a, b, xs, ys, ex, ey, ha, hb, hz, fun e => ?_, fun _ e => ?_, fun _ _ p hp => ?_⟩
  · subst e; exact q b H (Same.refl _) hb
  · subst e; exact q a H (Same.refl _) (by rw [List.append_nil]; exact ha)
  · exact q p _ (same_new hp _) (SqT.of upd_same)
def rSlS (K : PySem.W.Frag) : V → Option Int → Option Int → Hp → VK → Prop := fun x lo hi H Q => ∃ a xs, x = .ref a ∧ SqT K H a xs ∧ ∀ p H', Same H H' → SqT K H' p (cutV xs lo hi) → Q (.ref p) H'
theorem cut_whole {xs : List V} {lo hi : Option Int} (h : HT.sIx xs.length 0 lo = 0 ∧ HT.sIx xs.length xs.length hi = xs.length) : cutV xs lo hi = xs := by
  unfold cutV
  rw [h.1, h.2, List.drop_zero, Nat.sub_zero, List.take_length]
theorem sl_tupS : SlR X (rSlS X.K) := by
  intro pins s σ H x v vl vu lo hi sl Q I rx hs pl pu h
  obtain ⟨a, xs, ex, hx, q⟩ := h
  refine sl_tupA pins s σ H x v vl vu lo hi sl Q I rx hs pl pu ⟨a, xs, ex, hx, fun w => q a H (Same.refl _) ?_, fun _ p hp => q p _ (same_new hp _) (SqT.of upd_same)⟩
  rw [cut_whole w]; exact hx
theorem cut_hi {xs : List V} {n : Nat} : cutV xs none (some (n : Int)) = xs.take n := by
  unfold cutV
  have e1 : HT.sIx xs.length 0 none = 0 := by simp [HT.sIx]
  rw [e1, List.drop_zero, Nat.sub_zero]
  have e2 : HT.sIx xs.length xs.length (some (n : Int)) = min n xs.length := by
    simp only [HT.sIx]
    try split
    all_goals omega
  rw [e2]
  by_cases h : n ≤ xs.length
  · rw [Nat.min_eq_left h]
  · rw [Nat.min_eq_right (by omega), List.take_length, List.take_of_length_le (by omega)]
theorem cut_lo {xs : List V} {n : Nat} : cutV xs (some (n : Int)) none = xs.drop n := by
  unfold cutV
  have e1 : HT.sIx xs.length xs.length none = xs.length := by simp [HT.sIx]
  have e2 : HT.sIx xs.length 0 (some (n : Int)) = min n xs.length := by
    simp only [HT.sIx]
    try split
    all_goals omega
  rw [e1, e2]
  by_cases h : n ≤ xs.length
  · rw [Nat.min_eq_left h, List.take_of_length_le (by rw [List.length_drop]; omega)]
  · rw [Nat.min_eq_right (by omega), List.drop_length, List.drop_of_length_le (by omega), List.take_nil]
/-! ### (z,) * k -/
theorem mul_self (l : Addr) (items : Array Value) (n : Nat) (dd : Option Addr) (sl : Array (Option Value)) (u : Tok) :
    Meets (Builtin.«tuple.__mul__» ⟨[.ref l, .int 1 u], []⟩) (fun _ R s => s.heap.get? l = some { cls := .type "tuple", dict := dd, data := .seq items n, slots := sl } ∧ R (.ok (.ret (Value.ref l))) s) :=
  .of_wp fun prog w A R s h => by
    obtain ⟨hp, g, d, tk, os⟩ := s
    obtain ⟨hl, h⟩ := h
    have f1 := AutoSeq1.idx_int
    wp_walk using wpAny_loadPart' hl
    all_goals first | exact ⟨_, rfl, h⟩ | trace_state
theorem mul_nought (l : Addr) (items : Array Value) (n : Nat) (dd : Option Addr) (sl : Array (Option Value)) (u : Tok) (ne : items.isEmpty = false) :
    Meets (Builtin.«tuple.__mul__» ⟨[.ref l, .int 0 u], []⟩) (fun _ R s => s.heap.get? l = some { cls := .type "tuple", dict := dd, data := .seq items n, slots := sl } ∧
      R (.ok (.ret (Value.ref s.heap.objs.size))) { s with heap := s.heap.push { cls := Value.type "tuple", data := Data.seq #[] }, toks := s.toks }) :=
  .of_wp fun prog w A R s h => by
    obtain ⟨hp, g, d, tk, os⟩ := s
    obtain ⟨hl, h⟩ := h
    have f1 := AutoSeq1.idx_int
    have c1 : (items.isEmpty || (0 : Int) == 1) = false := by rw [ne]; rfl
    wp_walk using wpAny_loadPart' hl
    repeat (first
      | (refine wpAny_ite_false (decide_eq_false (by rw [c1]; exact Bool.false_ne_true)) ?_; wp_walk using wpAny_loadPart' hl))
    all_goals first | exact ⟨_, rfl, h⟩ | trace_state
/-- (z,) * k -/
def rRepS (K : PySem.W.Frag) : R2 := fun x y H Q => ∃ l k z, x = .ref l ∧ y = .int k ∧ SqT K H l [z] ∧ 0 ≤ k ∧ k ≤ 1000 ∧ ∀ p H', Same H H' → SqT K H' p (List.replicate k.toNat z) → Q (.ref p) H'
theorem rep_one (z : V) : ∀ n, (List.replicate n [z]).flatten = List.replicate n z
  | 0 => rfl
  | n + 1 => by rw [List.replicate_succ, List.flatten_cons, rep_one z n]; rfl
theorem op_repS : OpR X (binaryOp .Mult) (rRepS X.K) := by
  intro pins s σ H x y v u Q I rx ry h
  obtain ⟨l, k, z, ex, ey, hT, h0, h1, q⟩ := h
  by_cases c : 2 ≤ k
  · refine op_repT pins s σ H x y v u Q I rx ry ⟨l, k, [z], ex, ey, hT, (fun e => nomatch e), c, h1, (by show 1 ≤ 1000; decide), fun p hp => ?_⟩
    rw [rep_one]
    exact q p _ (same_new hp _) (SqT.of upd_same)
  subst ex ey
  obtain rfl : v = Value.ref l := rx
  obtain ⟨t, rfl⟩ := ry
  obtain ⟨its, r, ⟨⟨cls, dd, data, sl⟩, ho, hc, n, hd⟩, hs⟩ := I.tuple hT
  simp only at hc hd
  subst hc hd
  have hn : its.toArray.isEmpty = false := by
    cases r with
    | cons a b => rfl
  rcases (by omega : k = 0 ∨ k = 1) with e | e
  · subst e
    refine wpAny_binaryOp_repeat_ref (T := "tuple") (U := "int") (by decide) ⟨_, ho, rfl⟩ (fun s' => typeIs_int s' 0 t) noFill_tuple_mul F.fills_int_mul F.slot_int_rmul repeat_tuple F.slot_int_index.lookup
      (call_meets F.slot_int_rmul (typeIs_int s 0 t) F.entry_int_rmul (F.args_int_rmul_2 _ _) (int_rmul_tuple 0 t l its.toArray n dd sl)
        ⟨ho, rfl, ⟨_, ho, rfl⟩, call_meets F.slot_tuple_mul ⟨_, ho, rfl⟩ F.entry_tuple_mul (F.args_tuple_mul_2 _ _) (mul_nought l its.toArray n dd sl t hn) ⟨ho, ?_⟩⟩)
    refine ⟨.ref s.heap.objs.size, _, I.laid (t' := s.toks) (o := .tup []) (fun b ob q => Heap.get?_push_of_some _ q) (Nat.le_refl _) ?_, rfl, q _ _ (same_new (I.hok.fresh (Nat.le_refl _)) _) (SqT.of upd_same)⟩
    exact ⟨by decide, [], .nil, IsTup.new _ _⟩
  · subst e
    refine wpAny_binaryOp_repeat_ref (T := "tuple") (U := "int") (by decide) ⟨_, ho, rfl⟩ (fun s' => typeIs_int s' 1 t) noFill_tuple_mul F.fills_int_mul F.slot_int_rmul repeat_tuple F.slot_int_index.lookup
      (call_meets F.slot_int_rmul (typeIs_int s 1 t) F.entry_int_rmul (F.args_int_rmul_2 _ _) (int_rmul_tuple 1 t l its.toArray n dd sl)
        ⟨ho, rfl, ⟨_, ho, rfl⟩, call_meets F.slot_tuple_mul ⟨_, ho, rfl⟩ F.entry_tuple_mul (F.args_tuple_mul_2 _ _) (mul_self l its.toArray n dd sl t) ⟨ho, ?_⟩⟩)
    exact ⟨.ref l, H, I, rfl, q l H (Same.refl _) hT⟩
/-! ### any of a tuple of ints -/
def rAnyT (K : PySem.W.Frag) : List V → Hp → VK → Prop := fun vs H Q => ∃ (a : Addr) (ns : List Int), vs = [V.ref a] ∧ SqT K H a (iV ns) ∧ Q (.bl (ns.any (· != 0))) H
theorem truth_ints {prog : Program} {w : World} {A : Around} {ns : List Int} {its : List Value} (r : Vals (iV ns) its) :
    TruthOf prog w A (fun i v => its.toArray[i]? = some v) (fun i => ns.getD i 0 != 0) := fun i v s Q E hv hq => by
  have hv' : its[i]? = some v := by simpa using hv
  have hlt : i < (iV ns).length := by
    rw [r.length]
    exact (List.getElem?_eq_some_iff.mp hv').1
  obtain ⟨n, hn, hy⟩ := iV_get (List.getElem?_eq_getElem hlt)
  obtain ⟨u, e, ru⟩ := r.get (List.getElem?_eq_getElem hlt)
  rw [hv'] at e
  obtain rfl := Option.some.inj e
  rw [hy] at ru
  obtain ⟨t, rfl⟩ := ru
  have hg : ns.getD i 0 = n := by rw [List.getD_eq_getElem?_getD, hn] <;> rfl
  have hq' : Q (ns.getD i 0 != 0) s := hq
  rw [hg] at hq'
  exact PySem.P.truthy_int hq'
theorem any_turns (ns : List Int) : (List.range ns.length).any (fun i => ns.getD i 0 != 0) = ns.any (· != 0) := by
  rw [Bool.eq_iff_iff, List.any_eq_true, List.any_eq_true]
  constructor
  · rintro ⟨i, hi, h⟩
    have hi' : i < ns.length := List.mem_range.mp hi
    refine ⟨ns[i], List.getElem_mem hi', ?_⟩
    rw [List.getD_eq_getElem?_getD, List.getElem?_eq_getElem hi'] at h
    exact h
  · rintro ⟨x, hx, h⟩
    obtain ⟨i, hi, rfl⟩ := List.getElem_of_mem hx
    refine ⟨i, List.mem_range.mpr hi, ?_⟩
    rw [List.getD_eq_getElem?_getD, List.getElem?_eq_getElem hi]
    exact h
theorem cr_anyT (hc : X.calm = true) : CallR X (.builtin "any") (rAnyT X.K) := by
  intro pins s σ H vs us Q I r h
  obtain ⟨a, ns, rfl, hs, q⟩ := h
  obtain ⟨its, rv, ht, _⟩ := I.tuple hs
  rw [Vals.ref1 r]
  have hlt : a < s.heap.objs.size := by obtain ⟨_, e, _⟩ := ht; exact Heap.lt_size e
  refine call_any_walk (wpAny_pyIter_tuple ht ?_)
  have hne : a ≠ s.heap.objs.size := Nat.ne_of_lt hlt
  refine ⟨_, _, _, _, _, _, _, rfl, Walks.tuple (A := X.A.in1) (I.ok.hd hc) _ a hne its.toArray, ⟨⟨_, Heap.get?_push_size _ rfl, rfl, rfl⟩, ht.push _⟩, truth_ints rv, fun h' tk hk => ?_⟩
  refine ⟨.bl _, H, I.kept fun b o eo => hk b o (fun m => ?_) (Heap.get?_push_of_some _ eo), ?_, q⟩
  · have e1 := List.mem_singleton.mp m
    exact absurd (e1 ▸ Heap.lt_size eo) (Nat.lt_irrefl _)
  · show Value.bool _ = Value.bool _
    rw [← any_turns, List.size_toArray, ← rv.length, iV_len]
end
theorem walk_zipT {K : PySem.W.Frag} {a b : Addr} {xs ys : List V} {n : Nat} (hn : n = min xs.length ys.length) : Walk (RZ.ItzT K a b) n (fun H => SqT K H a xs ∧ SqT K H b ys) (YPair (fun i => xs[i]?) (fun i => ys[i]?)) where
  goes i H hi q := by
    subst hn
    exact ⟨xs, ys, xs[i]'(by omega), ys[i]'(by omega), q.1, q.2, by simp, by simp⟩
  stops H q := ⟨xs, ys, q.1, q.2, by omega⟩
  yields i H v H' _ q y := by
    obtain ⟨T, x, z, e, f, g, hx, hy⟩ := y
    exact ⟨T, x, z, e, f, g, hx xs q.1, hy ys q.2⟩
end Lk

set_option Elab.async false
set_option linter.all false
set_option maxRecDepth 100000
set_option maxHeartbeats 2000000
namespace Lk
open PySem PySem.Spec PyProof.Rows L2
/-! ### the layer's rules with the written part named: within a comprehension's element -/
section
variable {X : Cx} {K : PySem.W.Frag}
theorem ix_tupK (e : X.K = K) : IxR X (rIxT K) := e ▸ ix_tup
theorem ix_listK (e : X.K = K) : IxR X (rIxL K) := e ▸ ix_list
theorem pi_tupK {tg l : Expr} {tl : TE} (e : X.K = K) (h : PE X l tl) : PI X tg l (iTup K tl) := e ▸ pi_tup h
theorem pi_listK {tg l : Expr} {tl : TE} (e : X.K = K) (h : PE X l tl) : PI X tg l (iList K tl) := e ▸ pi_list h
theorem cr_sumK (e : X.K = K) (hc : X.calm = true) : CallR X (.builtin "sum") (rSum K) := e ▸ cr_sum hc
theorem cr_maxK (e : X.K = K) (hc : X.calm = true) : CallR X (.builtin "max") (rMax K) := e ▸ cr_max hc
theorem cr_minK (e : X.K = K) (hc : X.calm = true) : CallR X (.builtin "min") (rMin K) := e ▸ cr_min hc
theorem cr_allK (e : X.K = K) (hc : X.calm = true) : CallR X (.builtin "all") (rAll K) := e ▸ cr_all hc
theorem cr_anyK (e : X.K = K) (hc : X.calm = true) : CallR X (.builtin "any") (rAny K) := e ▸ cr_any hc
def rLenS (K : PySem.W.Frag) : List V → Hp → VK → Prop := fun xs H Q => ∃ p ys, xs = [.ref p] ∧ (SqL K H p ys ∨ SqT K H p ys) ∧ Q (.int ys.length) H
theorem call_lenK (e : X.K = K) : CallR X (.builtin "len") (rLenS K) := e ▸ call_len_seq
theorem call_isiK (e : X.K = K) : CallR X (.builtin "isinstance") (rIsi K) := e ▸ call_isi
theorem op_inK (e : X.K = K) : OpR X (compareOp .In) (rIn K false) := e ▸ op_in_seq
theorem op_notInK (e : X.K = K) : OpR X (compareOp .NotIn) (rIn K true) := e ▸ op_notIn_seq
theorem op_eqDK (e : X.K = K) (hu : X.A.units + 64 < cLine) : OpR X (compareOp .Eq) (rEqD K) := e ▸ op_eqD hu
theorem op_neDK (e : X.K = K) (hu : X.A.units + 64 < cLine) : OpR X (compareOp .NotEq) (rNeD K) := e ▸ op_neD hu
theorem op_catK (e : X.K = K) : OpR X (binaryOp .Add) (rCatS K) := e ▸ op_catS
theorem op_repK (e : X.K = K) : OpR X (binaryOp .Mult) (rRepS K) := e ▸ op_repS
theorem sl_tupK (e : X.K = K) : SlR X (rSlS K) := e ▸ sl_tupS
end
end Lk

set_option Elab.async false
set_option linter.all false
set_option maxRecDepth 100000
set_option maxHeartbeats 2000000
namespace Lk
open PySem PySem.Spec PyProof.Rows L2
theorem fun_binds {K : PySem.W.Frag} {x qual : Str} {st : Stmt} {f : Addr} {fd : FuncData} {ps ks : List Str} {g : List Value → List Value → List Value} {gV : List V → List V → List V} (F : Fun K x qual st f fd)
    (h : ∀ (kV doc pm : Value) (an : Option Addr) (cdv ct : Value) (us ws : List Value), (g us ws).length = ps.length → bindArgs (PySem.W.fnOf x qual (defArgs st) (defBody st) (defScope st) .none kV doc pm an cdv ct) ⟨us, ks.zip ws⟩ = pure (ps.zip (g us ws)))
    (rel : ∀ {vs : List V} {us : List Value} {zs : List V} {ws : List Value}, Vals vs us → Vals zs ws → Vals (gV vs zs) (g us ws)) : KBinds K fd ps ks g gV := by
  obtain ⟨oc, od, kV, doc, pm, an, cdv, ct, osl, rfl, lk, hcd⟩ := F.ex
  exact ⟨fun s us ws _ hl => .of_eq (h kV doc pm an cdv ct us ws hl), rel⟩
theorem cls_some {K : PySem.W.Frag} {C : Addr} (h : PySem.W.hasDictIn K C = true) : (PySem.W.clsIn K C).isSome = true := by
  obtain ⟨cd, hc, _⟩ := PySem.W.any_some h
  rw [hc]
  rfl
theorem kit_self {K : PySem.W.Frag} {C : Addr} : PySem.W.kitOne K (.ref C) (.ref C) = some true := if_pos (by simp)
theorem kit_own {K : PySem.W.Frag} {C D : Addr} {b : Bool} (hc : (PySem.W.clsIn K D).isSome = true) (ht : PySem.W.typeIn K (.ref D) = some (.type "type")) (h4 : PySem.W.subIn K (.ref C) (.ref D) = some b) (hn : b = false → (Value.ref C == Value.ref D) = false) : PySem.W.kitOne K (.ref C) (.ref D) = some b := by
  have e2 : ((PySem.W.clsIn K D).isSome && PySem.W.typeIn K (.ref D) == some (.type "type")) = true := by rw [hc, ht] <;> rfl
  show (if (Value.ref C == Value.ref D) = true then some true else (if ((PySem.W.clsIn K D).isSome && PySem.W.typeIn K (.ref D) == some (.type "type")) = true then PySem.W.subIn K (.ref C) (.ref D) else none)) = some b
  rw [if_pos e2, h4]
  cases b with
  | true => split <;> rfl
  | false => rw [hn rfl]; rfl
theorem kit_blt {K : PySem.W.Frag} {C : Addr} {T : String} {b : Bool} (hm : PySem.W.kitMeta T = true) (h4 : PySem.W.subIn K (.ref C) (.type T) = some b) : PySem.W.kitOne K (.ref C) (.type T) = some b := by
  show (if (Value.ref C == Value.type T) = true then some true else if PySem.W.kitMeta T = true then PySem.W.subIn K (.ref C) (.type T) else none) = some b
  rw [if_neg (by simp), if_pos hm, h4]
end Lk

set_option Elab.async false
set_option linter.all false
set_option maxRecDepth 100000
set_option maxHeartbeats 2000000
namespace Lk
open PySem PySem.Spec PyProof.Rows L2
mutual
def noL : PyData → Bool
  | .list _ => false
  | .dict _ => false
  | .tuple ds => noLs ds
  | _ => true
def noLs : List PyData → Bool
  | [] => true
  | d :: ds => noL d && noLs ds
end
theorem seqT_off {K : PySem.W.Frag} {H : Hp} {a l : Addr} {xs ys : List V} (h : SqT K H a xs) (hl : H l = some (.lst ys)) : SqT K (del H l) a xs := by
  rcases h with (h | ⟨o, h⟩) | h
  · have n : a ≠ l := fun z => by rw [z, hl] at h; cases h
    exact .inl (.inl (by rw [del_ne n]; exact h))
  · have n : a ≠ l := fun z => by rw [z, hl] at h; cases h
    exact .inl (.inr ⟨o, by rw [del_ne n]; exact h⟩)
  · exact .inr h
mutual
theorem dp_off {K : PySem.W.Frag} {H : Hp} {l : Addr} {ys : List V} (hl : H l = some (.lst ys)) : ∀ {v : V} {d : PyData}, noL d = true → Dp K H v d → Dp K (del H l) v d
  | _, _, _, .non => .non
  | _, _, _, .bl b => .bl b
  | _, _, _, .int i => .int i
  | _, _, _, .str x => .str x
  | _, _, n, .lst h a => nomatch n
  | _, _, n, .tup h a => .tup (seqT_off h hl) (dpAll_off hl n a)
theorem dpAll_off {K : PySem.W.Frag} {H : Hp} {l : Addr} {ys : List V} (hl : H l = some (.lst ys)) : ∀ {vs : List V} {ds : List PyData}, noLs ds = true → DpAll K H vs ds → DpAll K (del H l) vs ds
  | _, _, _, .nil => .nil
  | _, _, n, .cons a b => .cons (dp_off hl (Bool.and_eq_true_iff.mp n).1 a) (dpAll_off hl (Bool.and_eq_true_iff.mp n).2 b)
end
theorem same_off {H H' : Hp} {p : Addr} (e : Same H H') (h : H p = none) : Same H (del H' p) := fun b o q => by
  rw [del_ne (ne_of_none q h)]; exact e b o q
theorem dpAll_app {K : PySem.W.Frag} {H : Hp} : ∀ {vs : List V} {ds : List PyData} {v : V} {d : PyData}, DpAll K H vs ds → Dp K H v d → DpAll K H (vs ++ [v]) (ds ++ [d])
  | _, _, _, _, .nil, h => .cons h .nil
  | _, _, _, _, .cons a b, h => .cons a (dpAll_app b h)
theorem dp_ints {K : PySem.W.Frag} {H : Hp} : ∀ ws : List Int, DpAll K H (iV ws) (ws.map .int)
  | [] => .nil
  | w :: r => .cons (.int w) (dp_ints r)
theorem iV_take (ws : List Int) (n : Nat) : (iV ws).take n = iV (ws.take n) := by unfold iV; rw [List.map_take]
theorem iV_drop (ws : List Int) (n : Nat) : (iV ws).drop n = iV (ws.drop n) := by unfold iV; rw [List.map_drop]
end Lk

set_option Elab.async false
set_option linter.all false
set_option maxRecDepth 100000
set_option maxHeartbeats 2000000
namespace Lk
open PySem PySem.Spec PyProof.Rows L2
section
variable {X : Cx}
/-- list(o.values()) -/
def tListVals (td : TE) : TE := fun σ H Q => td σ H fun x H1 => ∃ a kvs, x = V.ref a ∧ H1 a = some (.dK kvs) ∧ ∀ p, H1 p = none → Q (.ref p) (upd H1 p (.lst (kvs.map (·.2))))
variable {o : Expr} {p pos apos mpos : Pos} {td : TE}
theorem pe_listVals (hc : X.calm = true) (hg : Gl X "list") (hm : X.mg "list" = none) (hd : PE X o td) (hbase : attributeBase o "values" X.env (eval o X.env) = eval o X.env := by rfl) (hline : (apos.endLine == mpos.line) = true := by rfl)
    (hse : starEach [Expr.Call (.Attribute o "values" apos) [] [] mpos] X.env = [(false, eval (Expr.Call (.Attribute o "values" apos) [] [] mpos) X.env)] := by rfl) :
    PE X (.Call (.Name "list" p) [.Call (.Attribute o "values" apos) [] [] mpos] [] pos) (tListVals td) := by
  refine ⟨fun pins s σ H Q I h => ?_⟩
  refine wpAny_Call_Name_kw (ld_blt I hg hm (u := .type "list") (by first | rfl | decide +kernel) ?_ (by first | decide +kernel | decide) (by first | decide +kernel | decide))
  rw [hse]
  refine PySem.callWith_type1 (wpAny_Call_method0_late hbase hline (thn (hd.run pins s σ H _ I h) fun v s1 ⟨x, H1, I1, r1, a, kvs, ex, ha, q⟩ => ?_))
  subst ex
  obtain rfl : v = Value.ref a := r1
  obtain ⟨hz, hsys, vs, rel, dof⟩ := dk_of I1.hok ha
  obtain ⟨ep, dat⟩ := dof.dictAt
  have dat' := dat
  obtain ⟨ob, es, ho, ex, hdat, hko, hpr, hnd⟩ := dat'
  refine ⟨"dict", "dict.values", F.plainAttrs_dict, F.slot_dict_values, F.type_dict_values, ⟨ob, ho, ex.1⟩, fun b e => ?_, Calls.callWith_builtin rfl (PySem.evalArgs_none ?_)⟩
  · cases e
    exact ⟨ob, ho, ex.2.1⟩
  refine call_meetsIn F.slot_dict_values ⟨ob, ho, ex.1⟩ F.entry_dict_values (F.args_dict_values_1 _) (meets_dict_values (mixKind X.prog X.w) a hsys) ⟨⟨vs, dof⟩, ?_⟩
  have k1 : ∀ b u, s1.heap.get? b = some u → (s1.heap.push { cls := .type "dict_values", data := .fields #[.ref a] }).get? b = some u := fun b u e => Heap.get?_push_of_some _ e
  have dat1 : (s1.heap.push { cls := .type "dict_values", data := .fields #[.ref a] }).DictAt (mixKind X.prog X.w) a vs ep := dat.keep k1
  have I2 : Inv X pins σ H1 { s1 with heap := s1.heap.push { cls := .type "dict_values", data := .fields #[.ref a] } } := I1.kept (t' := s1.toks) k1
  have hl : kvs.length = vs.length := Paired.length rel
  refine PySem.W.kdl_call (r := s1.heap.objs.size) (PySem.W.kdl_values (knd := mixKind X.prog X.w) (kvs := vs) (ep := ep)) (I1.ok.hd hc) ⟨⟨_, Heap.get?_push_size _ rfl, rfl, rfl⟩, dat1⟩ (by rw [← hl]; exact hz) fun h' tk acc' c' hkeep hS hacc => ?_
  refine ⟨.ref _, upd H1 (s1.heap.push { cls := .type "dict_values", data := .fields #[.ref a] }).objs.size (.lst (kvs.map (·.2))), I2.laid hkeep (Nat.le_refl _) (show ObjOk X.prog X.w _ _ _ (.lst (kvs.map (·.2))) from ⟨?_, acc'.toList, c', ?_, ?_⟩), rfl, q _ (I2.hok.fresh (Nat.le_refl _))⟩
  · rw [List.length_map]; exact hz
  · have el : acc'.toList.length = acc'.size := by simp
    refine vals_of_at (by rw [List.length_map, el, hacc.1, hl]) fun j x w h1 h2 => ?_
    obtain ⟨k, hk⟩ := hacc.2 j w (by rw [← Array.getElem?_toList]; exact h2)
    obtain ⟨y, e1, e2⟩ := KV.at' rel hk
    rw [List.getElem?_map, e1] at h1
    cases h1
    exact e2
  · rw [Array.toArray_toList]; exact hS
/-- o.remove(e), by data: the first item that is equal is gone -/
def rRemD (K : PySem.W.Frag) : V → List V → Hp → VK → Prop := fun x vs H Q => ∃ (l : Addr) (xs : List V) (ds : List PyData) (y : V) (d : PyData) (j : Nat), x = .ref l ∧ vs = [y] ∧ H l = some (.lst xs) ∧ DpAll K H xs ds ∧ Dp K H y d ∧
  PyData.plainAll ds = true ∧ d.plain = true ∧ min (PyData.depthAll ds) d.depth ≤ 60 ∧ (ds.findIdx? fun z => PyData.eqv z d) = some j ∧ Q .non (upd H l (.lst (xs.eraseIdx j)))
theorem mt_removeD (hu : X.A.units + 65 < cLine) : MtM X "list.remove" (rRemD X.K) := by
  intro pins s σ H x vs v us Q I rx rv h
  obtain ⟨l, xs, ds, y, d, j, rfl, rfl, hH, hx, hy, p1, p2, p3, hj, q⟩ := h
  cases rx
  obtain ⟨u, rfl, ru⟩ := vals1 rv
  obtain ⟨z, its, n, r, hl, e⟩ := I.lstM hH
  obtain ⟨as, r1⟩ := Dp.readsAll I ds xs its hx r
  obtain ⟨bs, r2⟩ := Dp.reads I d y u hy ru
  have hsz : its.toArray.size ≤ sizeLine := by rw [List.size_toArray, ← hl]; exact z
  refine SeqAt.remove_list_data (l := l) (vs := its.toArray) (xs := ds) (x := u) (d := d) (j := j) ⟨_, e, rfl, n, rfl⟩ (by simpa using r1) r2 p1 p2 (by omega) hj hsz ?_
  refine ⟨.non, _, I.lset (its' := its.eraseIdx j) hH e ?_ (r.eraseIdx j) ?_, rfl, q⟩
  · show its.toArray.eraseIdxIfInBounds j = (its.eraseIdx j).toArray
    rw [List.eraseIdxIfInBounds_toArray]
  · have := len_erase xs j
    omega
end
end Lk

set_option Elab.async false
set_option linter.all false
set_option maxRecDepth 100000
set_option maxHeartbeats 2000000
namespace Lk
/-! ### transfers: pairs (to, from), the rows that do them -/
abbrev Pr := Int × Int
abbrev Rw := Bool × Int × Int
def tos (L : List Pr) : List Int := L.map Prod.fst
def froms (L : List Pr) : List Int := L.map Prod.snd
def freeOf (L : List Pr) : List Pr := L.filter fun p => decide (p.1 ∉ froms L)
def turned (t o : Int) (r : List Pr) : List Pr := (r.map fun q => if q.2 = t then (q.1, o) else q).filter fun q => decide (q.1 ≠ q.2)
def without (t : Int) (L : List Pr) : List Pr := L.filter fun q => decide (q.1 ≠ t)
def stepR (L : List Pr) : Option (Rw × List Pr) :=
  match freeOf L with
  | p :: _ => some ((true, p.1, p.2), without p.1 L)
  | [] => match L with
    | [] => none
    | p :: r => some ((false, p.1, p.2), turned p.1 p.2 r)
def rowsN : Nat → List Pr → List Rw
  | 0, _ => []
  | n + 1, L => match stepR L with
    | none => []
    | some (r, L') => r :: rowsN n L'
structure GoodL (L : List Pr) : Prop where
  asc : (tos L).Pairwise (· < ·)
  ne : ∀ p ∈ L, p.1 ≠ p.2
theorem GoodL.nodup {L : List Pr} (h : GoodL L) : (tos L).Nodup := h.asc.imp fun a => by omega
theorem tos_turned (t o : Int) (r : List Pr) : (tos (turned t o r)).Sublist (tos r) := by
  have e : tos (r.map fun q => if q.2 = t then (q.1, o) else q) = tos r := by
    unfold tos
    rw [List.map_map]
    refine List.map_congr_left fun q _ => ?_
    show (if q.2 = t then (q.1, o) else q).1 = q.1
    split <;> rfl
  rw [← e]
  exact (List.filter_sublist ..).map _
theorem GoodL.cons {p : Pr} {r : List Pr} (h : GoodL (p :: r)) : GoodL r := ⟨(List.pairwise_cons.mp h.asc).2, fun q m => h.ne q (List.mem_cons_of_mem _ m)⟩
theorem GoodL.turned {L : List Pr} (t o : Int) (h : GoodL L) : GoodL (turned t o L) :=
  ⟨h.asc.sublist (tos_turned t o L), fun p m => of_decide_eq_true (List.mem_filter.mp m).2⟩
theorem GoodL.without {L : List Pr} (t : Int) (h : GoodL L) : GoodL (without t L) :=
  ⟨h.asc.sublist ((List.filter_sublist ..).map _), fun p m => h.ne p (List.mem_filter.mp m).1⟩
theorem free_mem {L : List Pr} {p : Pr} {r : List Pr} (e : freeOf L = p :: r) : p ∈ L ∧ p.1 ∉ froms L := by
  have m : p ∈ freeOf L := by rw [e]; exact List.mem_cons_self
  have := List.mem_filter.mp m
  exact ⟨this.1, of_decide_eq_true this.2⟩
theorem filter_lt {α : Type} {l : List α} {p : α → Bool} {x : α} (m : x ∈ l) (h : p x = false) : (l.filter p).length < l.length := by
  induction l with
  | nil => cases m
  | cons a l ih =>
    rcases List.mem_cons.mp m with e | m
    · subst e
      rw [List.filter_cons_of_neg (by rw [h]; exact Bool.false_ne_true)]
      exact Nat.lt_succ_of_le (List.length_filter_le _ _)
    · have := ih m
      rw [List.filter_cons]
      split <;> simp only [List.length_cons] <;> omega
theorem step_less {L L' : List Pr} {r : Rw} (h : GoodL L) (e : stepR L = some (r, L')) : GoodL L' ∧ L'.length < L.length := by
  unfold stepR at e
  cases ef : freeOf L with
  | cons p q =>
    rw [ef] at e
    cases e
    obtain ⟨m, _⟩ := free_mem ef
    exact ⟨h.without _, filter_lt m (decide_eq_false fun z => z rfl)⟩
  | nil =>
    rw [ef] at e
    cases L with
    | nil => cases e
    | cons p q =>
      cases e
      refine ⟨h.cons.turned _ _, ?_⟩
      refine Nat.lt_succ_of_le (Nat.le_trans (List.length_filter_le _ _) ?_)
      rw [List.length_map]; exact Nat.le_refl _
theorem step_none {L : List Pr} (e : stepR L = none) : L = [] := by
  unfold stepR at e
  cases ef : freeOf L with
  | cons p q => rw [ef] at e; cases e
  | nil =>
    rw [ef] at e
    cases L with
    | nil => rfl
    | cons p q => cases e
/-! a list that covers one without doubles and is no longer is a turning of it -/
theorem perm_of_cover : ∀ (l m : List Int), l.Nodup → (∀ x ∈ l, x ∈ m) → m.length ≤ l.length → m.Perm l
  | [], m, _, _, h => by
    have : m = [] := List.eq_nil_of_length_eq_zero (Nat.le_zero.mp h)
    rw [this]
  | x :: l, m, hn, hs, h => by
    have hx : x ∈ m := hs x List.mem_cons_self
    have hn' := List.nodup_cons.mp hn
    have p1 := List.perm_cons_erase hx
    refine p1.trans (List.Perm.cons x ?_)
    refine perm_of_cover l (m.erase x) hn'.2 (fun y my => ?_) ?_
    · have ne : y ≠ x := fun e => hn'.1 (e ▸ my)
      exact (List.mem_erase_of_ne ne).mpr (hs y (List.mem_cons_of_mem _ my))
    · rw [List.length_erase_of_mem hx]
      simp at h
      omega
theorem all_rings {L : List Pr} (h : GoodL L) (e : freeOf L = []) : (froms L).Perm (tos L) := by
  refine perm_of_cover _ _ h.nodup (fun x m => ?_) (by unfold tos froms; simp)
  obtain ⟨p, hp, rfl⟩ := List.mem_map.mp m
  by_cases c : p.1 ∈ froms L
  · exact c
  · have : p ∈ freeOf L := List.mem_filter.mpr ⟨hp, decide_eq_true c⟩
    rw [e] at this; cases this
theorem fst_inj {L : List Pr} (h : (tos L).Nodup) {p q : Pr} (hp : p ∈ L) (hq : q ∈ L) (e : p.1 = q.1) : p = q := by
  induction L with
  | nil => cases hp
  | cons a L ih =>
    have hn := List.nodup_cons.mp (show (a.1 :: tos L).Nodup from h)
    rcases List.mem_cons.mp hp with e1 | p1
    · rcases List.mem_cons.mp hq with e2 | q1
      · rw [e1, e2]
      · exact absurd (List.mem_map.mpr ⟨q, q1, by rw [← e, e1]⟩ : a.1 ∈ tos L) hn.1
    · rcases List.mem_cons.mp hq with e2 | q1
      · exact absurd (List.mem_map.mpr ⟨p, p1, by rw [e, e2]⟩ : a.1 ∈ tos L) hn.1
      · exact ih hn.2 p1 q1
theorem snd_inj {L : List Pr} (h : (froms L).Nodup) {p q : Pr} (hp : p ∈ L) (hq : q ∈ L) (e : p.2 = q.2) : p = q := by
  induction L with
  | nil => cases hp
  | cons a L ih =>
    have hn := List.nodup_cons.mp (show (a.2 :: froms L).Nodup from h)
    rcases List.mem_cons.mp hp with e1 | p1
    · rcases List.mem_cons.mp hq with e2 | q1
      · rw [e1, e2]
      · exact absurd (List.mem_map.mpr ⟨q, q1, by rw [← e, e1]⟩ : a.2 ∈ froms L) hn.1
    · rcases List.mem_cons.mp hq with e2 | q1
      · exact absurd (List.mem_map.mpr ⟨p, p1, by rw [e, e2]⟩ : a.2 ∈ froms L) hn.1
      · exact ih hn.2 p1 q1
/-! what the rows do -/
def app {α : Type} (f : Int → α) : Rw → (Int → α)
  | (true, r, s) => fun x => if x = r then f s else f x
  | (false, r, s) => fun x => if x = r then f s else if x = s then f r else f x
def runR {α : Type} (f : Int → α) : List Rw → (Int → α)
  | [] => f
  | r :: rs => runR (app f r) rs
theorem mem_turned {t o : Int} {r : List Pr} {q : Pr} (m : q ∈ turned t o r) : ∃ p ∈ r, q.1 = p.1 ∧ q.1 ≠ q.2 ∧ ((p.2 = t ∧ q.2 = o) ∨ (p.2 ≠ t ∧ q = p)) := by
  obtain ⟨m1, m2⟩ := List.mem_filter.mp m
  obtain ⟨p, mp, e⟩ := List.mem_map.mp m1
  have ne := of_decide_eq_true m2
  by_cases c : p.2 = t
  · rw [if_pos c] at e
    subst e
    exact ⟨p, mp, rfl, ne, .inl ⟨c, rfl⟩⟩
  · rw [if_neg c] at e
    subst e
    exact ⟨p, mp, rfl, ne, .inr ⟨c, rfl⟩⟩
theorem turned_mem {t o : Int} {r : List Pr} {p : Pr} (m : p ∈ r) (ne : p.1 ≠ (if p.2 = t then o else p.2)) : (p.1, if p.2 = t then o else p.2) ∈ turned t o r := by
  refine List.mem_filter.mpr ⟨List.mem_map.mpr ⟨p, m, ?_⟩, decide_eq_true ne⟩
  split <;> rfl
theorem rows_do {α : Type} : ∀ (n : Nat) (L : List Pr), GoodL L → L.length ≤ n → ∀ f : Int → α, (∀ p ∈ L, runR f (rowsN n L) p.1 = f p.2) ∧ ∀ x, x ∉ tos L → runR f (rowsN n L) x = f x
  | 0, L, h, hn, f => by
    have : L = [] := List.eq_nil_of_length_eq_zero (Nat.le_zero.mp hn)
    subst this
    exact ⟨fun p m => (nomatch m), fun x _ => rfl⟩
  | n + 1, L, h, hn, f => by
    cases es : stepR L with
    | none =>
      have := step_none es
      subst this
      exact ⟨fun p m => (nomatch m), fun x _ => rfl⟩
    | some rl =>
      obtain ⟨r, L'⟩ := rl
      obtain ⟨h', hlt⟩ := step_less h es
      have er : rowsN (n + 1) L = r :: rowsN n L' := by rw [rowsN, es]
      rw [er]
      obtain ⟨i1, i2⟩ := rows_do n L' h' (by omega) (app f r)
      show (∀ p ∈ L, runR (app f r) (rowsN n L') p.1 = f p.2) ∧ ∀ x, x ∉ tos L → runR (app f r) (rowsN n L') x = f x
      unfold stepR at es
      cases ef : freeOf L with
      | cons p q =>
        rw [ef] at es
        cases es
        obtain ⟨mp, nf⟩ := free_mem ef
        have nt : p.1 ∉ tos (without p.1 L) := fun m => by
          obtain ⟨z, hz, e⟩ := List.mem_map.mp m
          exact of_decide_eq_true (List.mem_filter.mp hz).2 e
        refine ⟨fun z mz => ?_, fun x nx => ?_⟩
        · by_cases c : z.1 = p.1
          · have := fst_inj h.nodup mz mp c
            subst this
            rw [i2 _ nt]
            show (if z.1 = z.1 then f z.2 else f z.1) = f z.2
            rw [if_pos rfl]
          · rw [i1 z (List.mem_filter.mpr ⟨mz, decide_eq_true c⟩)]
            show (if z.2 = p.1 then f p.2 else f z.2) = f z.2
            rw [if_neg (show ¬ z.2 = p.1 from fun e => nf (e ▸ List.mem_map.mpr ⟨z, mz, rfl⟩))]
        · have nx' : x ∉ tos (without p.1 L) := fun m => by
            obtain ⟨z, hz, e⟩ := List.mem_map.mp m
            exact nx (List.mem_map.mpr ⟨z, (List.mem_filter.mp hz).1, e⟩)
          rw [i2 x nx']
          show (if x = p.1 then f p.2 else f x) = f x
          rw [if_neg (show ¬ x = p.1 from fun e => nx (e ▸ List.mem_map.mpr ⟨p, mp, rfl⟩))]
      | nil =>
        rw [ef] at es
        cases L with
        | nil => cases es
        | cons p q =>
          cases es
          have pm := all_rings h ef
          have hnf : (froms (p :: q)).Nodup := pm.nodup_iff.mpr h.nodup
          have ht := List.nodup_cons.mp (show (p.1 :: tos q).Nodup from h.nodup)
          have hpn := h.ne p List.mem_cons_self
          have nt : p.1 ∉ tos (turned p.1 p.2 q) := fun m => ht.1 ((tos_turned _ _ _).subset m)
          have fin_t : runR (app f (false, p.1, p.2)) (rowsN n (turned p.1 p.2 q)) p.1 = f p.2 := by
            rw [i2 _ nt]
            show (if p.1 = p.1 then f p.2 else _) = f p.2
            rw [if_pos rfl]
          refine ⟨fun z mz => ?_, fun x nx => ?_⟩
          · rcases List.mem_cons.mp mz with rfl | mz'
            · exact fin_t
            · have zt : z.1 ≠ p.1 := fun e => ht.1 (e ▸ List.mem_map.mpr ⟨z, mz', rfl⟩)
              have zo : z.2 ≠ p.2 := fun e => by
                have := snd_inj hnf mz List.mem_cons_self e
                exact zt (congrArg Prod.fst this)
              by_cases c : z.2 = p.1
              · by_cases d : z.1 = p.2
                · have no : z.1 ∉ tos (turned p.1 p.2 q) := fun m => by
                    obtain ⟨y, my, ey⟩ := List.mem_map.mp m
                    obtain ⟨y0, my0, ey0, ne, hh⟩ := mem_turned my
                    have : y0 = z := fst_inj (L := q) ht.2 my0 mz' (by rw [← ey0, ey])
                    subst this
                    rcases hh with ⟨_, e⟩ | ⟨e, _⟩
                    · exact ne (by rw [ey, d, e])
                    · exact e c
                  rw [i2 _ no, c, d]
                  show (if p.2 = p.1 then f p.2 else if p.2 = p.2 then f p.1 else f p.2) = f p.1
                  rw [if_neg (Ne.symm hpn), if_pos rfl]
                · have m' := turned_mem (t := p.1) (o := p.2) mz' (by rw [if_pos c]; exact d)
                  have e1 := i1 _ m'
                  rw [if_pos c] at e1
                  rw [show runR (app f (false, p.1, p.2)) (rowsN n (turned p.1 p.2 q)) z.1 = _ from e1, c]
                  show (if p.2 = p.1 then f p.2 else if p.2 = p.2 then f p.1 else f p.2) = f p.1
                  rw [if_neg (Ne.symm hpn), if_pos rfl]
              · have m' := turned_mem (t := p.1) (o := p.2) mz' (by rw [if_neg c]; exact h.ne z mz)
                have e1 := i1 _ m'
                rw [if_neg c] at e1
                rw [show runR (app f (false, p.1, p.2)) (rowsN n (turned p.1 p.2 q)) z.1 = _ from e1]
                show (if z.2 = p.1 then f p.2 else if z.2 = p.2 then f p.1 else f z.2) = f z.2
                rw [if_neg c, if_neg zo]
          · have x1 : x ≠ p.1 := fun e => nx (e ▸ List.mem_cons_self)
            have x2 : x ≠ p.2 := fun e => nx (e ▸ pm.subset (List.mem_cons_self))
            have nx' : x ∉ tos (turned p.1 p.2 q) := fun m => nx (List.mem_cons_of_mem _ ((tos_turned _ _ _).subset m))
            rw [i2 x nx']
            show (if x = p.1 then f p.2 else if x = p.2 then f p.1 else f x) = f x
            rw [if_neg x1, if_neg x2]
/-! no fewer do -/
def InjOff (lab : Int → Int) (R : Int → Prop) (S : List Int) : Prop := ∀ x y, R x → R y → x ∉ S → y ∉ S → lab x = lab y → x = y
theorem drop_one {lab : Int → Int} {R : Int → Prop} {S : List Int} {t o : Int} (h : InjOff lab R S) (ht : R t) (ho : R o) (ne : t ≠ o) (e : lab t = lab o) : ∃ S', S'.length + 1 = S.length ∧ InjOff lab (fun x => R x ∧ x ≠ t) S' := by
  by_cases c : t ∈ S
  · refine ⟨S.erase t, by rw [List.length_erase_of_mem c]; have := List.length_pos_of_mem c; omega, fun x y hx hy nx ny exy => ?_⟩
    refine h x y hx.1 hy.1 (fun m => nx ?_) (fun m => ny ?_) exy
    · exact (List.mem_erase_of_ne hx.2).mpr m
    · exact (List.mem_erase_of_ne hy.2).mpr m
  · have co : o ∈ S := by
      by_cases c2 : o ∈ S
      · exact c2
      · exact absurd (h t o ht ho c c2 e) ne
    refine ⟨S.erase o, by rw [List.length_erase_of_mem co]; have := List.length_pos_of_mem co; omega, fun x y hx hy nx ny exy => ?_⟩
    have key : ∀ z, R z → z ≠ t → z ∉ S.erase o → z ≠ o → lab z ≠ lab o := fun z hz zt nz zo el => by
      have nzS : z ∉ S := fun m => nz ((List.mem_erase_of_ne zo).mpr m)
      exact zt (h z t hz ht nzS c (el.trans e.symm))
    by_cases cx : x = o
    · by_cases cy : y = o
      · rw [cx, cy]
      · exact absurd (by rw [← exy, cx]) (key y hy.1 hy.2 ny cy)
    · by_cases cy : y = o
      · exact absurd (by rw [exy, cy]) (key x hx.1 hx.2 nx cx)
      · exact h x y hx.1 hy.1 (fun m => nx ((List.mem_erase_of_ne cx).mpr m)) (fun m => ny ((List.mem_erase_of_ne cy).mpr m)) exy
theorem rows_few : ∀ (n : Nat) (L : List Pr), GoodL L → ∀ (R : Int → Prop) (lab : Int → Int) (S : List Int), (∀ p ∈ L, R p.1 ∧ R p.2 ∧ lab p.1 = lab p.2) → InjOff lab R S → (rowsN n L).length ≤ S.length
  | 0, L, _, R, lab, S, _, _ => Nat.zero_le _
  | n + 1, L, h, R, lab, S, hL, hi => by
    cases es : stepR L with
    | none => rw [show rowsN (n + 1) L = [] by rw [rowsN, es]]; exact Nat.zero_le _
    | some rl =>
      obtain ⟨r, L'⟩ := rl
      obtain ⟨h', hlt⟩ := step_less h es
      rw [show rowsN (n + 1) L = r :: rowsN n L' by rw [rowsN, es]]
      unfold stepR at es
      cases ef : freeOf L with
      | cons p q =>
        rw [ef] at es
        cases es
        obtain ⟨mp, nf⟩ := free_mem ef
        obtain ⟨a, b, c⟩ := hL p mp
        obtain ⟨S', hS, hi'⟩ := drop_one hi a b (h.ne p mp) c
        have := rows_few n _ h' (fun x => R x ∧ x ≠ p.1) lab S' (fun z mz => by
          obtain ⟨m1, m2⟩ := List.mem_filter.mp mz
          obtain ⟨x, y, w⟩ := hL z m1
          exact ⟨⟨x, of_decide_eq_true m2⟩, ⟨y, fun e => nf (e ▸ List.mem_map.mpr ⟨z, m1, rfl⟩)⟩, w⟩) hi'
        simp only [List.length_cons]
        omega
      | nil =>
        rw [ef] at es
        cases L with
        | nil => cases es
        | cons p q =>
          cases es
          have mp : p ∈ p :: q := List.mem_cons_self
          obtain ⟨a, b, c⟩ := hL p mp
          have hpn := h.ne p mp
          have ht := List.nodup_cons.mp (show (p.1 :: tos q).Nodup from h.nodup)
          obtain ⟨S', hS, hi'⟩ := drop_one hi a b hpn c
          have := rows_few n _ h' (fun x => R x ∧ x ≠ p.1) lab S' (fun z mz => by
            obtain ⟨z0, m0, e0, ne, hh⟩ := mem_turned mz
            obtain ⟨x, y, w⟩ := hL z0 (List.mem_cons_of_mem _ m0)
            have z1 : z.1 ≠ p.1 := fun e => ht.1 (by rw [← e, e0]; exact List.mem_map.mpr ⟨z0, m0, rfl⟩)
            rcases hh with ⟨e1, e2⟩ | ⟨e1, e2⟩
            · rw [e0] at z1 ⊢
              rw [e2]
              exact ⟨⟨x, z1⟩, ⟨b, Ne.symm hpn⟩, by rw [w, e1, c]⟩
            · subst e2
              exact ⟨⟨x, z1⟩, ⟨y, e1⟩, w⟩) hi'
          simp only [List.length_cons]
          omega
theorem merge {f : Int → Int} {lab : Int → Int} {S : List Int} (r : Rw) (hf : ∀ x, lab (f x) = lab x) (hi : InjOff lab (fun _ => True) S) : ∃ lab' S', S'.length ≤ S.length + 1 ∧ InjOff lab' (fun _ => True) S' ∧ ∀ x, lab' (app f r x) = lab' x := by
  obtain ⟨b, r, s⟩ := r
  have same : ∀ x, (if lab (f x) = lab r then lab s else lab (f x)) = (if lab x = lab r then lab s else lab x) := fun x => by rw [hf]
  have hS : ∃ S' : List Int, S'.length ≤ S.length + 1 ∧ InjOff (fun x => if lab x = lab r then lab s else lab x) (fun _ => True) S' := by
    by_cases c : ∃ a, a ∉ S ∧ lab a = lab r
    · obtain ⟨a, na, ea⟩ := c
      refine ⟨a :: S, Nat.le_refl _, fun x y _ _ nx ny e => ?_⟩
      have key : ∀ z, z ∉ a :: S → lab z ≠ lab r := fun z nz ez => nz (by
        have : z = a := hi z a trivial trivial (fun m => nz (List.mem_cons_of_mem _ m)) na (ez.trans ea.symm)
        rw [this]; exact List.mem_cons_self)
      have e : (if lab x = lab r then lab s else lab x) = (if lab y = lab r then lab s else lab y) := e
      rw [if_neg (key x nx), if_neg (key y ny)] at e
      exact hi x y trivial trivial (fun m => nx (List.mem_cons_of_mem _ m)) (fun m => ny (List.mem_cons_of_mem _ m)) e
    · have key : ∀ z, z ∉ S → lab z ≠ lab r := fun z nz ez => c ⟨z, nz, ez⟩
      refine ⟨S, Nat.le_succ _, fun x y _ _ nx ny e => ?_⟩
      have e : (if lab x = lab r then lab s else lab x) = (if lab y = lab r then lab s else lab y) := e
      rw [if_neg (key x nx), if_neg (key y ny)] at e
      exact hi x y trivial trivial nx ny e
  obtain ⟨S', h1, h2⟩ := hS
  refine ⟨_, S', h1, h2, fun x => ?_⟩
  cases b with
  | true =>
    show (if lab (if x = r then f s else f x) = lab r then lab s else lab (if x = r then f s else f x)) = _
    by_cases c : x = r
    · rw [if_pos c, c, hf]; simp
    · rw [if_neg c]; exact same x
  | false =>
    show (if lab (if x = r then f s else if x = s then f r else f x) = lab r then lab s else lab (if x = r then f s else if x = s then f r else f x)) = _
    by_cases c : x = r
    · rw [if_pos c, c, hf]; simp
    · rw [if_neg c]
      by_cases d : x = s
      · rw [if_pos d, d, hf]; simp
      · rw [if_neg d]; exact same x
theorem labels : ∀ (rs : List Rw) (f lab : Int → Int) (S : List Int), (∀ x, lab (f x) = lab x) → InjOff lab (fun _ => True) S → ∃ lab' S', S'.length ≤ S.length + rs.length ∧ InjOff lab' (fun _ => True) S' ∧ ∀ x, lab' (runR f rs x) = lab' x
  | [], f, lab, S, hf, hi => ⟨lab, S, Nat.le_refl _, hi, hf⟩
  | r :: rs, f, lab, S, hf, hi => by
    obtain ⟨l1, S1, h1, h2, h3⟩ := merge r hf hi
    obtain ⟨l2, S2, k1, k2, k3⟩ := labels rs (app f r) l1 S1 h3 h2
    exact ⟨l2, S2, by simp only [List.length_cons]; omega, k2, k3⟩
/-- rows that do the transfers are as many -/
theorem fewest {n : Nat} {L : List Pr} (h : GoodL L) {rs : List Rw} (hd : ∀ p ∈ L, runR (fun x => x) rs p.1 = p.2) : (rowsN n L).length ≤ rs.length := by
  obtain ⟨lab, S, h1, h2, h3⟩ := labels rs (fun x => x) (fun x => x) [] (fun _ => rfl) (fun x y _ _ _ _ e => e)
  have := rows_few n L h (fun _ => True) lab S (fun p m => ⟨trivial, trivial, by rw [← h3 p.1, hd p m]⟩) h2
  simp at h1
  omega
end Lk

set_option Elab.async false
set_option linter.all false
set_option maxRecDepth 100000
set_option maxHeartbeats 2000000
namespace Lk
open Classical in
/-- how many of the list are so -/
noncomputable def cnt (P : Int → Prop) : List Int → Nat
  | [] => 0
  | x :: l => (if P x then 1 else 0) + cnt P l
theorem cnt_app (P : Int → Prop) : ∀ a b : List Int, cnt P (a ++ b) = cnt P a + cnt P b
  | [], b => by simp [cnt]
  | x :: a, b => by
    show _ + cnt P (a ++ b) = (_ + cnt P a) + cnt P b
    rw [cnt_app P a b]; omega
theorem cnt_congr {P Q : Int → Prop} : ∀ {l : List Int}, (∀ x ∈ l, P x ↔ Q x) → cnt P l = cnt Q l
  | [], _ => rfl
  | x :: l, h => by
    have h1 := h x List.mem_cons_self
    have h2 := cnt_congr (l := l) fun y m => h y (List.mem_cons_of_mem _ m)
    unfold cnt
    rw [h2]
    by_cases c : P x
    · rw [if_pos c, if_pos (h1.mp c)]
    · rw [if_neg c, if_neg fun z => c (h1.mpr z)]
theorem cnt_none {P : Int → Prop} : ∀ {l : List Int}, (∀ x ∈ l, ¬ P x) → cnt P l = 0
  | [], _ => rfl
  | x :: l, h => by
    unfold cnt
    rw [if_neg (h x List.mem_cons_self), cnt_none fun y m => h y (List.mem_cons_of_mem _ m)]
theorem cnt_perm {P : Int → Prop} {a b : List Int} (h : a.Perm b) : cnt P a = cnt P b := by
  induction h with
  | nil => rfl
  | cons x _ ih => unfold cnt; rw [ih]
  | swap x y l => unfold cnt; unfold cnt; omega
  | trans _ _ i j => exact i.trans j
theorem cnt_one {P : Int → Prop} {m : Int} : ∀ {l : List Int}, l.Nodup → m ∈ l → (∀ x ∈ l, P x ↔ x = m) → cnt P l = 1
  | x :: l, hn, hm, h => by
    have hn' := List.nodup_cons.mp hn
    unfold cnt
    by_cases c : x = m
    · rw [if_pos ((h x List.mem_cons_self).mpr c), cnt_none fun y my => fun hy => hn'.1 (by
        have := (h y (List.mem_cons_of_mem _ my)).mp hy
        rw [c, ← this]; exact my)]
    · have hm' : m ∈ l := (List.mem_cons.mp hm).resolve_left fun e => c e.symm
      rw [if_neg fun z => c ((h x List.mem_cons_self).mp z), cnt_one hn'.2 hm' fun y my => h y (List.mem_cons_of_mem _ my)]
/-! the next register of each -/
def nxt : List Pr → Int → Option Int
  | [], _ => none
  | p :: r, x => if p.1 = x then some p.2 else nxt r x
theorem nxt_mem : ∀ {L : List Pr} {x y : Int}, nxt L x = some y → (x, y) ∈ L
  | p :: r, x, y, h => by
    unfold nxt at h
    by_cases c : p.1 = x
    · rw [if_pos c] at h
      have : p = (x, y) := by rw [← c, ← Option.some.inj h]
      rw [this]; exact List.mem_cons_self
    · rw [if_neg c] at h
      exact List.mem_cons_of_mem _ (nxt_mem h)
theorem mem_nxt : ∀ {L : List Pr} {p : Pr}, (tos L).Nodup → p ∈ L → nxt L p.1 = some p.2
  | a :: r, p, hn, m => by
    have hn' := List.nodup_cons.mp (show (a.1 :: tos r).Nodup from hn)
    unfold nxt
    rcases List.mem_cons.mp m with e | m
    · rw [e, if_pos rfl]
    · rw [if_neg (show ¬ a.1 = p.1 from fun e => hn'.1 (by rw [e]; exact List.mem_map.mpr ⟨p, m, rfl⟩))]
      exact mem_nxt hn'.2 m
theorem nxt_none {L : List Pr} {x : Int} (h : x ∉ tos L) : nxt L x = none := by
  cases e : nxt L x with
  | none => rfl
  | some y => exact absurd (List.mem_map.mpr ⟨_, nxt_mem e, rfl⟩) h
theorem nxt_some {L : List Pr} {x : Int} (hn : (tos L).Nodup) (h : x ∈ tos L) : ∃ y, nxt L x = some y := by
  obtain ⟨p, m, rfl⟩ := List.mem_map.mp h
  exact ⟨_, mem_nxt hn m⟩
inductive Rch (g : Int → Option Int) : Int → Int → Prop
  | one {x y : Int} : g x = some y → Rch g x y
  | step {x y z : Int} : g x = some y → Rch g y z → Rch g x z
theorem Rch.trans {g : Int → Option Int} {x y z : Int} (a : Rch g x y) (b : Rch g y z) : Rch g x z := by
  induction a with
  | one h => exact .step h b
  | step h _ ih => exact .step h (ih b)
theorem Rch.last {g : Int → Option Int} {x z : Int} (a : Rch g x z) : ∃ y, g y = some z := by
  induction a with
  | one h => exact ⟨_, h⟩
  | step _ _ ih => exact ih
/-- the head of its ring, by an order -/
def Rep (le : Int → Int → Prop) (g : Int → Option Int) (x : Int) : Prop := Rch g x x ∧ ∀ y, Rch g x y → le x y
/-! rows and rings -/
theorem cnt_without {P : Int → Prop} (t : Int) (h : ¬ P t) : ∀ L : List Pr, cnt P (tos (without t L)) = cnt P (tos L)
  | [] => rfl
  | p :: r => by
    have ih := cnt_without t h r
    unfold without tos at ih ⊢
    by_cases c : p.1 = t
    · rw [List.filter_cons_of_neg (by simp [c]), List.map_cons, ih, cnt, if_neg (by rw [c]; exact h)]; omega
    · rw [List.filter_cons_of_pos (by simp [c]), List.map_cons, List.map_cons, cnt, cnt, ih]
theorem len_without (t : Int) : ∀ {L : List Pr}, (tos L).Nodup → t ∈ tos L → (without t L).length + 1 = L.length
  | p :: r, hn, m => by
    have hn' := List.nodup_cons.mp (show (p.1 :: tos r).Nodup from hn)
    unfold without
    by_cases c : p.1 = t
    · have e : r.filter (fun q => decide (q.1 ≠ t)) = r := List.filter_eq_self.mpr fun q mq => decide_eq_true fun z => hn'.1 (by rw [c, ← z]; exact List.mem_map.mpr ⟨q, mq, rfl⟩)
      rw [List.filter_cons_of_neg (by simp [c]), e]; rfl
    · have m' : t ∈ tos r := (List.mem_cons.mp (show t ∈ p.1 :: tos r from m)).resolve_left fun e => c e.symm
      have := len_without t hn'.2 m'
      unfold without at this
      rw [List.filter_cons_of_pos (by simp [c]), List.length_cons, List.length_cons, this]
def geI (x y : Int) : Prop := y ≤ x
def leI (x y : Int) : Prop := x ≤ y
theorem rch_same {g g' : Int → Option Int} {A : Int → Prop} (h : ∀ x, A x → g' x = g x) (c : ∀ x y, A x → g x = some y → A y) {x y : Int} (hx : A x) : Rch g x y ↔ Rch g' x y := by
  constructor
  · intro r
    induction r with
    | one e => exact .one (by rw [h _ hx]; exact e)
    | step e _ ih => exact .step (by rw [h _ hx]; exact e) (ih (c _ _ hx e))
  · intro r
    induction r with
    | one e => exact .one (by rw [← h _ hx]; exact e)
    | step e _ ih =>
      rw [h _ hx] at e
      exact .step e (ih (c _ _ hx e))
theorem rep_same {le : Int → Int → Prop} {g g' : Int → Option Int} {x : Int} (h : ∀ y, Rch g x y ↔ Rch g' x y) : Rep le g x ↔ Rep le g' x :=
  ⟨fun ⟨a, b⟩ => ⟨(h x).mp a, fun y r => b y ((h y).mpr r)⟩, fun ⟨a, b⟩ => ⟨(h x).mpr a, fun y r => b y ((h y).mp r)⟩⟩
theorem nxt_without {t : Int} : ∀ {L : List Pr} {x : Int}, x ≠ t → nxt (without t L) x = nxt L x
  | [], x, _ => rfl
  | p :: r, x, h => by
    have ih := nxt_without (t := t) (L := r) h
    unfold without at ih ⊢
    by_cases c : p.1 = t
    · rw [List.filter_cons_of_neg (by simp [c]), ih, nxt, if_neg fun e => h (by rw [← e, c])]
    · rw [List.filter_cons_of_pos (by simp [c]), nxt, nxt, ih]
theorem nxt_turned {t o : Int} : ∀ {q : List Pr} {x : Int}, (tos q).Nodup → nxt (turned t o q) x = (match nxt q x with | none => none | some y => if y = t then (if x = o then none else some o) else if x = y then none else some y)
  | [], x, _ => rfl
  | p :: r, x, hn => by
    have hn' := List.nodup_cons.mp (show (p.1 :: tos r).Nodup from hn)
    have ih := nxt_turned (t := t) (o := o) (q := r) (x := x) hn'.2
    unfold turned at ih ⊢
    rw [List.map_cons, List.filter_cons]
    by_cases c : p.1 = x
    · have nx : nxt r x = none := nxt_none (by rw [← c]; exact hn'.1)
      rw [nx] at ih
      rw [show nxt (p :: r) x = some p.2 from by rw [nxt, if_pos c]]
      by_cases d : p.2 = t
      · rw [if_pos d]
        show nxt (if decide (p.1 ≠ o) = true then _ else _) x = (if p.2 = t then _ else _)
        rw [if_pos d]
        by_cases e : x = o
        · rw [if_neg (by simp [c, e]), if_pos e]; exact ih
        · rw [if_pos (by simp [c, e]), if_neg e, nxt, if_pos c]
      · rw [if_neg d]
        show nxt (if decide (p.1 ≠ p.2) = true then _ else _) x = (if p.2 = t then _ else _)
        rw [if_neg d]
        by_cases e : x = p.2
        · rw [if_neg (by rw [c]; simp [e]), if_pos e]; exact ih
        · rw [if_pos (by rw [c]; simp [e]), if_neg e, nxt, if_pos c]
    · rw [show nxt (p :: r) x = nxt r x from by rw [nxt, if_neg c]]
      rw [← ih]
      have key : ∀ (b : Bool) (h : Pr) (rest : List Pr), h.1 ≠ x → nxt (if b = true then h :: rest else rest) x = nxt rest x := fun b h rest hh => by
        cases b with
        | true => rw [if_pos rfl, nxt, if_neg hh]
        | false => rfl
      exact key _ _ _ (by split <;> exact c)
theorem cnt_pos_pick {P : Int → Prop} {o : Int} : ∀ {L : List Pr}, (tos L).Nodup → o ∈ tos L → P o → cnt P (tos L) = cnt P (tos (without o L)) + 1
  | p :: r, hn, m, ho => by
    have hn' := List.nodup_cons.mp (show (p.1 :: tos r).Nodup from hn)
    unfold without tos
    by_cases c : p.1 = o
    · have e : r.filter (fun q => decide (q.1 ≠ o)) = r := List.filter_eq_self.mpr fun q mq => decide_eq_true fun z => hn'.1 (by rw [c, ← z]; exact List.mem_map.mpr ⟨q, mq, rfl⟩)
      rw [List.filter_cons_of_neg (by simp [c]), e, List.map_cons, cnt, if_pos (by rw [c]; exact ho)]; omega
    · have m' : o ∈ tos r := (List.mem_cons.mp (show o ∈ p.1 :: tos r from m)).resolve_left fun e => c e.symm
      have := cnt_pos_pick (P := P) hn'.2 m' ho
      unfold without tos at this
      rw [List.filter_cons_of_pos (by simp [c]), List.map_cons, List.map_cons, cnt, cnt, this]; omega
theorem turned_two {t o : Int} : ∀ {q : List Pr}, (∀ p ∈ q, p.1 ≠ p.2) → (∀ p ∈ q, p.2 = t ↔ p.1 = o) → turned t o q = without o q
  | [], _, _ => rfl
  | p :: r, hne, h => by
    have ih := turned_two (t := t) (o := o) (q := r) (fun z m => hne z (List.mem_cons_of_mem _ m)) fun z m => h z (List.mem_cons_of_mem _ m)
    have hp := h p List.mem_cons_self
    have hpn := hne p List.mem_cons_self
    unfold turned without at ih ⊢
    rw [List.map_cons]
    by_cases c : p.2 = t
    · rw [if_pos c, List.filter_cons_of_neg (by simp [hp.mp c]), List.filter_cons_of_neg (by simp [hp.mp c]), ih]
    · rw [if_neg c, List.filter_cons_of_pos (by simp [hpn]), List.filter_cons_of_pos (by simp; exact fun e => c (hp.mpr e)), ih]
theorem turned_len {t o : Int} : ∀ {q : List Pr}, (∀ p ∈ q, p.1 ≠ p.2) → (∀ p ∈ q, p.2 = t → p.1 ≠ o) → tos (turned t o q) = tos q
  | [], _, _ => rfl
  | p :: r, hne, h => by
    have ih := turned_len (t := t) (o := o) (q := r) (fun z m => hne z (List.mem_cons_of_mem _ m)) fun z m => h z (List.mem_cons_of_mem _ m)
    have hp := h p List.mem_cons_self
    have hpn := hne p List.mem_cons_self
    unfold turned tos at ih ⊢
    rw [List.map_cons]
    by_cases c : p.2 = t
    · rw [if_pos c, List.filter_cons_of_pos (by simp [hp c]), List.map_cons, List.map_cons, ih]
    · rw [if_neg c, List.filter_cons_of_pos (by simp [hpn]), List.map_cons, List.map_cons, ih]
/-- the rows are as many as the pairs less the rings -/
theorem rows_rings : ∀ (n : Nat) (L : List Pr), GoodL L → L.length ≤ n → (rowsN n L).length + cnt (Rep geI (nxt L)) (tos L) = L.length
  | 0, L, h, hn => by
    have : L = [] := List.eq_nil_of_length_eq_zero (Nat.le_zero.mp hn)
    subst this; rfl
  | n + 1, L, h, hn => by
    cases es : stepR L with
    | none =>
      have := step_none es
      subst this
      rw [rowsN, es]; rfl
    | some rl =>
      obtain ⟨r, L'⟩ := rl
      obtain ⟨h', hlt⟩ := step_less h es
      rw [show rowsN (n + 1) L = r :: rowsN n L' by rw [rowsN, es], List.length_cons]
      have ih := rows_rings n L' h' (by omega)
      unfold stepR at es
      cases ef : freeOf L with
      | cons p q =>
        rw [ef] at es
        cases es
        obtain ⟨mp, nf⟩ := free_mem ef
        have pt : p.1 ∈ tos L := List.mem_map.mpr ⟨p, mp, rfl⟩
        have np : ¬ Rep geI (nxt L) p.1 := fun z => by
          obtain ⟨y, hy⟩ := z.1.last
          exact nf (List.mem_map.mpr ⟨_, nxt_mem hy, rfl⟩)
        have hl := len_without p.1 h.nodup pt
        have hc := cnt_without (P := Rep geI (nxt L)) p.1 np L
        have e : cnt (Rep geI (nxt (without p.1 L))) (tos (without p.1 L)) = cnt (Rep geI (nxt L)) (tos (without p.1 L)) := cnt_congr fun x mx => by
          have hx : x ≠ p.1 := fun e => by
            obtain ⟨z, hz, ez⟩ := List.mem_map.mp mx
            exact of_decide_eq_true (List.mem_filter.mp hz).2 (ez.trans e)
          exact (rep_same fun y => rch_same (A := fun x => x ≠ p.1) (fun x hx => nxt_without hx) (fun x y _ hy e => nf (e ▸ List.mem_map.mpr ⟨_, nxt_mem hy, rfl⟩)) hx).symm
        omega
      | nil =>
        rw [ef] at es
        cases L with
        | nil => cases es
        | cons p q =>
          cases es
          have pm := all_rings h ef
          have hnf : (froms (p :: q)).Nodup := pm.nodup_iff.mpr h.nodup
          have hn1 := List.nodup_cons.mp (show (p.1 :: tos q).Nodup from h.nodup)
          have hpn := h.ne p List.mem_cons_self
          have mp : p ∈ p :: q := List.mem_cons_self
          -- p.1 is the least
          have least : ∀ x ∈ tos q, p.1 < x := fun x mx => (List.pairwise_cons.mp (show (p.1 :: tos q).Pairwise (· < ·) from h.asc)).1 x mx
          have oin : p.2 ∈ tos q := (List.mem_cons.mp (pm.subset (show p.2 ∈ froms (p :: q) from List.mem_cons_self))).resolve_left fun e => hpn e.symm
          have gt : nxt (p :: q) p.1 = some p.2 := by rw [nxt, if_pos rfl]
          have gx : ∀ x, x ≠ p.1 → nxt (p :: q) x = nxt q x := fun x hx => by rw [nxt, if_neg (Ne.symm hx)]
          have gne : ∀ x y, nxt (p :: q) x = some y → x ≠ y := fun x y e => h.ne _ (nxt_mem e)
          have gt' : nxt (turned p.1 p.2 q) p.1 = none := nxt_none fun m => hn1.1 ((tos_turned _ _ _).subset m)
          have gx' : ∀ x, x ≠ p.1 → nxt (turned p.1 p.2 q) x = (match nxt (p :: q) x with | none => none | some y => if y = p.1 then (if x = p.2 then none else some p.2) else some y) := fun x hx => by
            rw [nxt_turned hn1.2, gx x hx]
            cases e : nxt q x with
            | none => rfl
            | some y =>
              have : x ≠ y := gne x y (by rw [gx x hx]; exact e)
              show (if y = p.1 then _ else if x = y then none else some y) = (if y = p.1 then _ else some y)
              rw [if_neg this]
          have inT : ∀ x y, nxt (p :: q) x = some y → y ∈ tos (p :: q) := fun x y e => pm.subset (List.mem_map.mpr ⟨_, nxt_mem e, rfl⟩)
          by_cases two : nxt (p :: q) p.2 = some p.1
          · -- a ring of two goes
            have hq : ∀ z ∈ q, z.2 = p.1 ↔ z.1 = p.2 := fun z mz => by
              have m0 : (p.2, p.1) ∈ p :: q := nxt_mem two
              constructor
              · intro e
                have := snd_inj hnf (List.mem_cons_of_mem _ mz) m0 e
                exact congrArg Prod.fst this
              · intro e
                have := fst_inj h.nodup (List.mem_cons_of_mem _ mz) m0 e
                exact congrArg Prod.snd this
            have et := turned_two (t := p.1) (o := p.2) (q := q) (fun z mz => h.ne z (List.mem_cons_of_mem _ mz)) hq
            rw [et] at ih ⊢
            have hlen := len_without p.2 hn1.2 oin
            have ro : Rep geI (nxt (p :: q)) p.2 := by
              refine ⟨.step two (.one gt), fun y r => ?_⟩
              have key : ∀ a b, Rch (nxt (p :: q)) a b → (a = p.1 ∨ a = p.2) → (b = p.1 ∨ b = p.2) := fun a b r => by
                induction r with
                | one e =>
                  rintro (rfl | rfl)
                  · rw [gt] at e; exact .inr (Option.some.inj e).symm
                  · rw [two] at e; exact .inl (Option.some.inj e).symm
                | step e _ ih =>
                  rintro (rfl | rfl)
                  · rw [gt] at e; exact ih (.inr (Option.some.inj e).symm)
                  · rw [two] at e; exact ih (.inl (Option.some.inj e).symm)
              rcases key _ _ r (.inr rfl) with e | e
              · rw [e]; have := least _ oin; show p.1 ≤ p.2; omega
              · rw [e]; exact Int.le_refl _
            have nt : ¬ Rep geI (nxt (p :: q)) p.1 := fun z => by
              have h1 := z.2 p.2 (.one gt)
              have := least _ oin
              have h1' : p.2 ≤ p.1 := h1
              omega
            have c1 : cnt (Rep geI (nxt (p :: q))) (tos (p :: q)) = cnt (Rep geI (nxt (p :: q))) (tos q) := by
              show cnt _ (p.1 :: tos q) = _
              rw [cnt, if_neg nt]; omega
            have c2 := cnt_pos_pick (P := Rep geI (nxt (p :: q))) hn1.2 oin ro
            have c3 : cnt (Rep geI (nxt (without p.2 q))) (tos (without p.2 q)) = cnt (Rep geI (nxt (p :: q))) (tos (without p.2 q)) := cnt_congr fun x mx => by
              obtain ⟨z, hz, ez⟩ := List.mem_map.mp mx
              have zq := (List.mem_filter.mp hz).1
              have x2 : x ≠ p.2 := fun e => of_decide_eq_true (List.mem_filter.mp hz).2 (ez.trans e)
              have x1 : x ≠ p.1 := fun e => hn1.1 (by rw [← e, ← ez]; exact List.mem_map.mpr ⟨z, zq, rfl⟩)
              refine (rep_same fun y => rch_same (A := fun x => x ≠ p.1 ∧ x ≠ p.2) (fun x hx => by rw [nxt_without hx.2, gx x hx.1]) (fun x y hx hy => ?_) ⟨x1, x2⟩).symm
              have m1 := nxt_mem hy
              refine ⟨fun e => ?_, fun e => ?_⟩
              · have := snd_inj hnf m1 (nxt_mem two) e
                exact hx.2 (congrArg Prod.fst this)
              · have := snd_inj hnf m1 mp e
                exact hx.1 (congrArg Prod.fst this)
            rw [List.length_cons]
            omega
          · -- a longer ring loses its least
            have hlen : tos (turned p.1 p.2 q) = tos q := turned_len (fun z mz => h.ne z (List.mem_cons_of_mem _ mz)) fun z mz e1 e2 => two (by
              rw [gx _ (Ne.symm hpn), ← e2, ← e1]; exact mem_nxt hn1.2 mz)
            have nt : ¬ Rep geI (nxt (p :: q)) p.1 := fun z => by
              have h1 := z.2 p.2 (.one gt)
              have := least _ oin
              have h1' : p.2 ≤ p.1 := h1
              omega
            have fwd : ∀ x y, Rch (nxt (turned p.1 p.2 q)) x y → Rch (nxt (p :: q)) x y ∧ y ≠ p.1 := fun x y r => by
              have one : ∀ x z, nxt (turned p.1 p.2 q) x = some z → Rch (nxt (p :: q)) x z ∧ z ≠ p.1 := fun x z e => by
                have x1 : x ≠ p.1 := fun e1 => by rw [e1, gt'] at e; cases e
                rw [gx' x x1] at e
                cases e2 : nxt (p :: q) x with
                | none => rw [e2] at e; cases e
                | some w =>
                  rw [e2] at e
                  by_cases c : w = p.1
                  · have e3 : (if w = p.1 then (if x = p.2 then none else some p.2) else some w) = some z := e
                    rw [if_pos c] at e3
                    split at e3
                    · cases e3
                    · have ez := Option.some.inj e3
                      subst ez
                      rw [c] at e2
                      exact ⟨.step e2 (.one gt), Ne.symm hpn⟩
                  · have e3 : (if w = p.1 then (if x = p.2 then none else some p.2) else some w) = some z := e
                    rw [if_neg c] at e3
                    have ez := Option.some.inj e3
                    subst ez
                    exact ⟨.one e2, c⟩
              induction r with
              | one e => exact one _ _ e
              | step e _ ih => exact ⟨(one _ _ e).1.trans ih.1, ih.2⟩
            have bwd : ∀ x y, Rch (nxt (p :: q)) x y → y ≠ p.1 → (x ≠ p.1 → Rch (nxt (turned p.1 p.2 q)) x y) ∧ (x = p.1 → y = p.2 ∨ Rch (nxt (turned p.1 p.2 q)) p.2 y) := fun x y r => by
              have stay : ∀ x z, x ≠ p.1 → z ≠ p.1 → nxt (p :: q) x = some z → nxt (turned p.1 p.2 q) x = some z := fun x z h1 h2 e => by
                rw [gx' x h1, e]
                show (if z = p.1 then _ else some z) = some z
                rw [if_neg h2]
              have over : ∀ x, x ≠ p.1 → nxt (p :: q) x = some p.1 → nxt (turned p.1 p.2 q) x = some p.2 := fun x h1 e => by
                rw [gx' x h1, e]
                show (if p.1 = p.1 then (if x = p.2 then none else some p.2) else some p.1) = some p.2
                rw [if_pos rfl, if_neg (show ¬ x = p.2 from fun e1 => two (by rw [← e1]; exact e))]
              induction r with
              | one e =>
                intro hy
                refine ⟨fun hx => .one (stay _ _ hx hy e), fun hx => .inl ?_⟩
                rw [hx, gt] at e; exact (Option.some.inj e).symm
              | @step x z y e _ ih =>
                intro hy
                obtain ⟨i1, i2⟩ := ih hy
                refine ⟨fun hx => ?_, fun hx => ?_⟩
                · by_cases c : z = p.1
                  · rw [c] at e
                    rcases i2 c with e2 | r2
                    · rw [e2]; exact .one (over x hx e)
                    · exact .step (over x hx e) r2
                  · exact .step (stay x z hx c e) (i1 c)
                · rw [hx, gt] at e
                  have ez := Option.some.inj e
                  right
                  have q1 := i1 (by rw [← ez]; exact Ne.symm hpn)
                  rw [← ez] at q1
                  exact q1
            have c1 : cnt (Rep geI (nxt (p :: q))) (tos (p :: q)) = cnt (Rep geI (nxt (p :: q))) (tos q) := by
              show cnt _ (p.1 :: tos q) = _
              rw [cnt, if_neg nt]; omega
            have c3 : cnt (Rep geI (nxt (turned p.1 p.2 q))) (tos q) = cnt (Rep geI (nxt (p :: q))) (tos q) := cnt_congr fun x mx => by
              have x1 : x ≠ p.1 := fun e => hn1.1 (e ▸ mx)
              have lx := least x mx
              constructor
              · rintro ⟨a, b⟩
                refine ⟨(fwd _ _ a).1, fun y r => ?_⟩
                by_cases c : y = p.1
                · rw [c]; show p.1 ≤ x; omega
                · exact b y ((bwd _ _ r c).1 x1)
              · rintro ⟨a, b⟩
                exact ⟨(bwd _ _ a x1).1 x1, fun y r => b y (fwd _ _ r).1⟩
            rw [hlen] at ih
            have hl2 : (turned p.1 p.2 q).length = q.length := by
              have := congrArg List.length hlen
              unfold tos at this
              rw [List.length_map, List.length_map] at this
              exact this
            rw [List.length_cons]
            omega
end Lk

set_option Elab.async false
set_option linter.all false
set_option maxRecDepth 100000
set_option maxHeartbeats 2000000
namespace Lk
section
variable {g : Int → Option Int}
theorem ring_next {x y z : Int} (hx : Rch g x x) (hy : Rch g y x) (e : g y = some z) : Rch g z x := by
  cases hy with
  | one h => rw [h] at e; rw [← Option.some.inj e]; exact hx
  | step h r => rw [h] at e; rw [← Option.some.inj e]; exact r
theorem ring_back {x a y : Int} (hx : Rch g x x) (ha : Rch g a x) (r : Rch g a y) : Rch g y x := by
  induction r with
  | one e => exact ring_next hx ha e
  | step e _ ih => exact ih (ring_next hx ha e)
theorem rch_some {x y : Int} (r : Rch g x y) : g x ≠ none := by
  cases r with
  | one e => rw [e]; exact fun z => nomatch z
  | step e _ => rw [e]; exact fun z => nomatch z
theorem closed_rch {M : List Int} (hc : ∀ x ∈ M, ∀ y, g x = some y → y ∈ M ∨ g y = none) {a y : Int} (ha : a ∈ M) (r : Rch g a y) : y ∈ M ∨ g y = none := by
  induction r with
  | one e => exact hc _ ha _ e
  | step e r ih =>
    rcases hc _ ha _ e with h | h
    · exact ih h
    · exact absurd h (rch_some r)
inductive Chain (g : Int → Option Int) (s : Int) : List Int → Int → Prop
  | nil : Chain g s [] s
  | snoc {ps : List Int} {a b : Int} : Chain g s ps a → g a = some b → Chain g s (ps ++ [a]) b
theorem Chain.reach {s t : Int} {ps : List Int} (c : Chain g s ps t) : ∀ x ∈ ps, Rch g x t := by
  induction c with
  | nil => exact fun x m => nomatch m
  | snoc c e ih =>
    intro x m
    rcases List.mem_append.mp m with m | m
    · exact (ih x m).trans (.one e)
    · rw [List.mem_singleton.mp m]; exact .one e
theorem Chain.start {s t : Int} {ps : List Int} (c : Chain g s ps t) : (ps = [] ∧ t = s) ∨ (s ∈ ps ∧ Rch g s t) := by
  induction c with
  | nil => exact .inl ⟨rfl, rfl⟩
  | @snoc ps a b c e ih =>
    right
    rcases ih with ⟨h1, h2⟩ | ⟨h1, h2⟩
    · subst h1; subst h2; exact ⟨List.mem_singleton.mpr rfl, .one e⟩
    · exact ⟨List.mem_append.mpr (.inl h1), h2.trans (.one e)⟩
theorem snoc_split {α : Type} {ps us vs : List α} {a c : α} (h : ps ++ [a] = us ++ c :: vs) : (vs = [] ∧ c = a ∧ ps = us) ∨ ∃ vs', vs = vs' ++ [a] ∧ ps = us ++ c :: vs' := by
  rcases List.eq_nil_or_concat vs with e | ⟨vs', x, e⟩
  · subst e
    left
    obtain ⟨h1, h2⟩ := List.append_inj' h rfl
    exact ⟨rfl, (List.cons.inj h2).1.symm, h1⟩
  · right
    rw [List.concat_eq_append] at e
    subst e
    have h' : ps ++ [a] = (us ++ c :: vs') ++ [x] := by rw [h]; simp
    obtain ⟨h1, h2⟩ := List.append_inj' h' rfl
    have := (List.cons.inj h2).1
    subst this
    exact ⟨vs', rfl, h1⟩
theorem Chain.next {s t : Int} {ps : List Int} (c : Chain g s ps t) : ∀ us x vs, ps = us ++ x :: vs → ∀ y ∈ x :: vs, ∀ z, g y = some z → z ∈ vs ∨ z = t := by
  induction c with
  | nil => intro us x vs h; cases us <;> cases h
  | @snoc ps a b c e ih =>
    intro us x vs h y my z hz
    rcases snoc_split h with ⟨h1, h2, h3⟩ | ⟨vs', h1, h2⟩
    · subst h1; subst h2
      rw [List.mem_singleton.mp my, e] at hz
      exact .inr (Option.some.inj hz).symm
    · subst h1
      rcases List.mem_cons.mp my with m | m
      · rcases ih us x vs' h2 y (by rw [m]; exact List.mem_cons_self) z hz with q | q
        · exact .inl (List.mem_append.mpr (.inl q))
        · exact .inl (List.mem_append.mpr (.inr (List.mem_singleton.mpr q)))
      · rcases List.mem_append.mp m with m | m
        · rcases ih us x vs' h2 y (List.mem_cons_of_mem _ m) z hz with q | q
          · exact .inl (List.mem_append.mpr (.inl q))
          · exact .inl (List.mem_append.mpr (.inr (List.mem_singleton.mpr q)))
        · rw [List.mem_singleton.mp m, e] at hz
          exact .inr (Option.some.inj hz).symm
theorem Chain.after {s t : Int} {ps : List Int} (c : Chain g s ps t) : ∀ us x vs, ps = us ++ x :: vs → ∀ y ∈ vs, Rch g x y := by
  induction c with
  | nil => intro us x vs h; cases us <;> cases h
  | @snoc ps a b c e ih =>
    intro us x vs h y my
    rcases snoc_split h with ⟨h1, h2, h3⟩ | ⟨vs', h1, h2⟩
    · subst h1; cases my
    · subst h1
      rcases List.mem_append.mp my with m | m
      · exact ih us x vs' h2 y m
      · rw [List.mem_singleton.mp m]
        exact c.reach x (by rw [h2]; exact List.mem_append.mpr (.inr List.mem_cons_self))
/-- a total order -/
structure Ord (le : Int → Int → Prop) : Prop where
  total : ∀ x y, le x y ∨ le y x
  anti : ∀ x y, le x y → le y x → x = y
  trans : ∀ x y z, le x y → le y z → le x z
theorem ord_le : Ord leI := ⟨fun x y => by unfold leI; omega, fun x y => by unfold leI; omega, fun x y z => by unfold leI; omega⟩
theorem ord_ge : Ord geI := ⟨fun x y => by unfold geI; omega, fun x y => by unfold geI; omega, fun x y z => by unfold geI; omega⟩
theorem least_of {le : Int → Int → Prop} (o : Ord le) : ∀ l : List Int, l ≠ [] → ∃ m ∈ l, ∀ y ∈ l, le m y
  | [], h => absurd rfl h
  | [x], _ => ⟨x, List.mem_singleton.mpr rfl, fun y m => by rw [List.mem_singleton.mp m]; exact (o.total x x).elim id id⟩
  | x :: y :: r, _ => by
    obtain ⟨m, hm, h⟩ := least_of o (y :: r) (fun z => nomatch z)
    rcases o.total x m with c | c
    · refine ⟨x, List.mem_cons_self, fun z mz => ?_⟩
      rcases List.mem_cons.mp mz with e | mz
      · rw [e]; exact (o.total x x).elim id id
      · exact o.trans _ _ _ c (h z mz)
    · refine ⟨m, List.mem_cons_of_mem _ hm, fun z mz => ?_⟩
      rcases List.mem_cons.mp mz with e | mz
      · rw [e]; exact c
      · exact h z mz
/-- what a walk over new ones comes upon: one ring's head if it ends among themselves, else none -/
theorem walk_cnt {le : Int → Int → Prop} (o : Ord le) {M : List Int} (hc : ∀ x ∈ M, ∀ y, g x = some y → y ∈ M ∨ g y = none) {s t : Int} {ps : List Int} (c : Chain g s ps t) (hn : ps.Nodup) (hf : ∀ x ∈ ps, x ∉ M) (hg : ∀ x ∈ ps, g x ≠ none) :
    (t ∈ ps → cnt (Rep le g) ps = 1) ∧ ((g t = none ∨ t ∈ M) → cnt (Rep le g) ps = 0) := by
  refine ⟨fun ht => ?_, fun ht => ?_⟩
  · obtain ⟨us, vs, e⟩ := List.append_of_mem ht
    have hC : ∀ y ∈ t :: vs, ∀ z, g y = some z → z ∈ t :: vs := fun y my z hz => (c.next us t vs e y my z hz).elim (List.mem_cons_of_mem _) fun q => by rw [q]; exact List.mem_cons_self
    have toT : ∀ x ∈ ps, Rch g x t := c.reach
    have inC : ∀ x ∈ t :: vs, x ∈ ps := fun x m => by rw [e]; exact List.mem_append.mpr (.inr m)
    have tt : Rch g t t := toT t ht
    have fromT : ∀ x ∈ t :: vs, Rch g t x := fun x m => by
      rcases List.mem_cons.mp m with q | q
      · rw [q]; exact tt
      · exact c.after us t vs e x q
    have stay : ∀ x y, x ∈ t :: vs → Rch g x y → y ∈ t :: vs := fun x y m r => by
      rcases closed_rch (M := t :: vs) (fun x hx y hy => .inl (hC x hx y hy)) m r with q | q
      · exact q
      · exfalso
        have := r.last
        induction r with
        | one e1 => exact hg _ (inC _ (hC _ m _ e1)) q
        | step e1 _ ih => exact ih (hC _ m _ e1) q (by obtain ⟨w, hw⟩ := this; exact ⟨w, hw⟩)
    rw [e] at hn ⊢
    have hd := List.nodup_append.mp hn
    rw [cnt_app, cnt_none (l := us) fun x mx hr => ?_, Nat.zero_add]
    · obtain ⟨m, hm, hl⟩ := least_of o (t :: vs) (fun z => nomatch z)
      refine cnt_one hd.2.1 hm fun x mx => ⟨fun hr => ?_, fun hx => ?_⟩
      · exact o.anti _ _ (hr.2 m ((toT x (inC x mx)).trans (fromT m hm))) (hl x mx)
      · rw [hx]
        exact ⟨(toT m (inC m hm)).trans (fromT m hm), fun y r => hl y (stay m y hm r)⟩
    · have xp : x ∈ ps := by rw [e]; exact List.mem_append.mpr (.inl mx)
      have r := ring_back hr.1 hr.1 (toT x xp)
      have := stay t x List.mem_cons_self r
      exact hd.2.2 x mx x this rfl
  · refine cnt_none fun x mx hr => ?_
    have r := ring_back hr.1 hr.1 (c.reach x mx)
    rcases ht with q | q
    · exact rch_some r q
    · rcases closed_rch hc q r with z | z
      · exact hf x mx z
      · exact hg x mx z
/-- the laps of a count that stops when it is back -/
theorem chain_nodup {s y t : Int} {ps : List Int} (c : Chain g y ps t) (hs : s ∉ ps) (ht : t ≠ s) (hr : ∀ x, x ∈ ps ∨ x = t → Rch g x s) : (ps ++ [t]).Nodup := by
  induction c with
  | nil => simp
  | @snoc ps a b c e ih =>
    have hsa : s ∉ ps := fun m => hs (List.mem_append.mpr (.inl m))
    have na : a ≠ s := fun z => hs (by rw [← z]; exact List.mem_append.mpr (.inr (List.mem_singleton.mpr rfl)))
    have i := ih hsa na fun x hx => hr x (.inl (hx.elim (fun m => List.mem_append.mpr (.inl m)) fun q => List.mem_append.mpr (.inr (List.mem_singleton.mpr q))))
    have nb : b ∉ ps ++ [a] := fun m => by
      obtain ⟨us, vs, e1⟩ := List.append_of_mem m
      have hC : ∀ y ∈ b :: vs, ∀ z, g y = some z → z ∈ b :: vs ∨ g z = none := fun y my z hz => .inl (((Chain.snoc c e).next us b vs e1 y my z hz).elim (List.mem_cons_of_mem _) fun q => by rw [q]; exact List.mem_cons_self)
      have rb := hr b (.inr rfl)
      have key : ∀ u w, u ∈ b :: vs → Rch g u w → w ∈ b :: vs := fun u w mu r => by
        induction r with
        | one e2 => exact ((Chain.snoc c e).next us b vs e1 _ mu _ e2).elim (List.mem_cons_of_mem _) fun q => by rw [q]; exact List.mem_cons_self
        | step e2 _ ih => exact ih (((Chain.snoc c e).next us b vs e1 _ mu _ e2).elim (List.mem_cons_of_mem _) fun q => by rw [q]; exact List.mem_cons_self)
      have := key b s List.mem_cons_self rb
      exact hs (by rw [e1]; exact List.mem_append.mpr (.inr this))
    refine List.nodup_append.mpr ⟨i, by simp, fun x mx y my => ?_⟩
    rw [List.mem_singleton.mp my]
    exact fun z => nb (z ▸ mx)
theorem len_le_of_nodup {l T : List Int} (hn : l.Nodup) (hs : ∀ x ∈ l, x ∈ T) : l.length ≤ T.length := by
  induction l generalizing T with
  | nil => exact Nat.zero_le _
  | cons x l ih =>
    have hx := hs x List.mem_cons_self
    have hn' := List.nodup_cons.mp hn
    have := ih (T := T.erase x) hn'.2 fun y m => (List.mem_erase_of_ne (show y ≠ x from fun e => hn'.1 (by rw [← e]; exact m))).mpr (hs y (List.mem_cons_of_mem _ m))
    rw [List.length_erase_of_mem hx] at this
    have := List.length_pos_of_mem hx
    simp only [List.length_cons]
    omega
theorem laps_rep {s y here least : Int} {os T : List Int} (hT : ∀ x, x ∈ T ↔ g x ≠ none) (hs : g s = some y) (c : Chain g y os here) (hos : s ∉ os) (h1 : least ≤ s) (h2 : ∀ x ∈ os, least ≤ x) (h3 : least = s ∨ least ∈ os)
    (hend : os.length = T.length ∨ here = s ∨ here ∉ T) : (here = s ∧ least = s) ↔ Rep leI g s := by
  have toHere : Rch g s here := by
    rcases c.start with ⟨_, e⟩ | ⟨_, r⟩
    · rw [e]; exact .one hs
    · exact .step hs r
  have orb : ∀ x ∈ os, Rch g s x := fun x m => by
    have : ∀ ps t, Chain g y ps t → ∀ x, x ∈ ps → Rch g s x := fun ps t c => by
      induction c with
      | nil => exact fun x m => nomatch m
      | @snoc ps a b c e ih =>
        intro x m
        rcases List.mem_append.mp m with m | m
        · exact ih x m
        · rw [List.mem_singleton.mp m]
          rcases c.start with ⟨_, e⟩ | ⟨_, r⟩
          · rw [e]; exact .one hs
          · exact .step hs r
    exact this os here c x m
  constructor
  · rintro ⟨e1, e2⟩
    subst e1
    refine ⟨toHere, fun w r => ?_⟩
    have key : ∀ a w, (a = here ∨ a ∈ os) → Rch g a w → (w = here ∨ w ∈ os) := fun a w ha r => by
      have one : ∀ a b, (a = here ∨ a ∈ os) → g a = some b → (b = here ∨ b ∈ os) := fun a b ha e => by
        rcases ha with q | q
        · rw [q, hs] at e
          rw [← Option.some.inj e]
          rcases c.start with ⟨_, e⟩ | ⟨m, _⟩
          · exact .inl e.symm
          · exact .inr m
        · obtain ⟨us, vs, e1⟩ := List.append_of_mem q
          rcases c.next us a vs e1 a List.mem_cons_self b e with z | z
          · exact .inr (by rw [e1]; exact List.mem_append.mpr (.inr (List.mem_cons_of_mem _ z)))
          · exact .inl z
      induction r with
      | one e => exact one _ _ ha e
      | step e _ ih => exact ih (one _ _ ha e)
    rcases key _ _ (.inl rfl) r with q | q
    · rw [q]; exact Int.le_refl _
    · have := h2 w q; show here ≤ w; omega
  · rintro ⟨a, b⟩
    have hh : here = s := by
      rcases hend with q | q | q
      · by_cases z : here = s
        · exact z
        · exfalso
          have back : ∀ x, x ∈ os ∨ x = here → Rch g x s := fun x hx => ring_back a a (hx.elim (orb x) fun e => e ▸ toHere)
          have nd := chain_nodup c hos z back
          have := len_le_of_nodup nd (T := T) fun x m => (hT x).mpr (rch_some (back x ((List.mem_append.mp m).imp_right List.mem_singleton.mp)))
          rw [List.length_append] at this
          simp at this
          omega
      · exact q
      · exact absurd ((hT here).mpr (rch_some (ring_back a a toHere))) q
    refine ⟨hh, ?_⟩
    rcases h3 with q | q
    · exact q
    · have := b least (orb least q)
      have h4 : s ≤ least := this
      omega
end
end Lk

set_option Elab.async false
set_option linter.all false
set_option maxRecDepth 100000
set_option maxHeartbeats 4000000
namespace Lk
open PySem PySem.Spec PyProof.Rows L2 L2H HotX
/-! ### a def over L2N's exceptions (their context is none) -/
section
variable {P : Program} {w : World} {K : PySem.W.Frag} {mg : Str → Option Value} {base : Heap}
theorem okXN {x qual : Str} {st : Stmt} {f : Addr} {fd : FuncData} {N ps : List Str} {k : Nat} {sp : Sp} (F : Fun K x qual st f fd) (S : FnScope N ps (defScope st)) (len : ∀ vs H Q E, sp vs H Q E → vs.length = ps.length)
    (bd : ∀ (cdv : Value) (A : Around) (outer : List Env) (s : Shared) (H : Hp) (vs : List V) (Q : VK) (E : XK), Room k (A.deeper (envOfC qual (defScope st) s.heap.objs.size f cdv)) → sp vs H Q E →
      ∃ t, PSs (cxOf (L2N.CX P w) P w K mg base N qual (defScope st) f cdv A outer s H E) (defBody st) t ∧ t { nx := fun _ H' => Q .non H', rt := Q } (L2.start N vs) H) : FnOk P w K mg base (L2N.CX P w) (k + 1) f fd ps sp := by
  obtain ⟨_, _, _, _, _, _, cdv, _, _, rfl, l1, l2⟩ := F.ex
  exact fn_of l1 l2 S len fun A outer s H vs Q E h1 h2 => bd cdv A outer s H vs Q E h1 h2
end
/-! ### C(..), the object's context is none -/
theorem pmk_oexN {X : Cx} {CX : CXT} {x : Str} {C fI : Addr} {k : Nat} {fd : FuncData} {ps : List Str} {sp : Sp} {ds : List Value} {dvs : List V} {e : Expr} {es : List Expr} {ta : TA} {p pos : Pos} (T : OexC X.K C)
    (iC : PySem.W.findIn X.K (.ref C) "__init__" = some (some (.ref fI))) (tI : PySem.W.typeIn X.K (.ref fI) = some (.type "function")) (F1 : FnOk X.prog X.w X.K X.mg X.base CX k fI fd ps sp) (hr : Room (k + 1) X.A) (hb : Binds X.K fd ps ds)
    (hd : Vals dvs ds) (hx : Passes CX X (fun _ _ _ => False)) (hg : Gl X x) (hm : X.mg x = some (.ref C)) (ha : PA X (e :: es) ta) (hdb : (x == ("__debug__" : Str)) = false := by decide)
    (he : starEach (e :: es) X.env = (false, eval e X.env) :: starEach es X.env := by rfl) (hpl : (backTo pos (starEach es X.env)).any (·.1) = false := by rfl) : L2N.PMk X (.Call (.Name x p) (e :: es) [] pos) (tMkO C sp dvs ta) := by
  intro pins s σ H Q I h
  obtain ⟨nm, q, N, bs, bm, sn, sub, ab, col, dd, k0, k1, k2, k3, k5, hC, hbm⟩ := T.cls
  refine wpAny_Call_Name_kw (ld_glob I hg hm (PySem.W.callWith_K (h₀ := X.base) I.ok.mod.kin T.kC (thn (ha.run pos pins s σ H _ I h) fun us s1 ⟨vs, H1, I1, r1, hz, q1⟩ => ⟨I1.kIn, ?_⟩) he hpl) hdb)
  obtain ⟨hp, g, dr, tk, os⟩ := s1
  let n := hp.objs.size
  let h1 := (hp.push (PySem.W.kdv_tup us)).push (PySem.HandSPX.excO C n)
  have le1 : n ≤ n + 1 := Nat.le_succ _
  have fr : H1 (n + 1) = none := I1.hok.fresh le1
  have grow : ∀ b o, hp.get? b = some o → h1.get? b = some o := fun b o e => Heap.get?_push_of_some _ (Heap.get?_push_of_some _ e)
  have there : h1.get? (n + 1) = some (PySem.HandSPX.excO C n) := by
    show ((hp.push (PySem.W.kdv_tup us)).push (PySem.HandSPX.excO C hp.objs.size)).get? (hp.objs.size + 1) = some (PySem.HandSPX.excO C hp.objs.size)
    heap_get
  have want := q1 (n + 1) fr
  have I2 : Inv X pins σ (upd H1 (n + 1) (exo (n + 1) C none)) ⟨h1, g, dr, tk, os⟩ := I1.laid (t' := tk) (a := n + 1) (o := exo (n + 1) C none) (h' := h1) grow le1 (exo_ok there)
  have r2 : Vals (V.ref (n + 1) :: (vs ++ dvs)) (Value.ref (n + 1) :: (us ++ ds)) := .cons rfl (r1.append hd)
  have hl : (Value.ref (n + 1) :: us ++ ds).length = ps.length := by
    have := r2.length
    rw [F1.len _ _ _ _ want] at this
    exact this.symm
  have few : us.length ≤ sizeLine := by rw [← Paired.length r1, sizeLine_eq]; omega
  have run1 := F1.run _ X.stack _ _ ⟨Value.ref (n + 1) :: us, []⟩ (Value.ref (n + 1) :: (us ++ ds)) _ _ (fun _ _ _ => False) (hr.make C us []) (I2.env0.make C us []) (hb _ (Value.ref (n + 1) :: us) I2.kIn hl) r2 want
  have beh : ∀ (r : Result) (s' : Shared), CR CX X.stack X.prog X.w (upd H1 (n + 1) (exo (n + 1) C none)) ⟨h1, g, dr, tk, os⟩ (fun v H2 => v = .non ∧ ∃ (d : Addr) (fs : List (Str × V)), H2 (n + 1) = some (exo (n + 1) C (some d)) ∧ H2 d = some (exd d fs) ∧ H1 d = none ∧ Q (.ref C) (some d) (upd (del H2 (n + 1)) d (.xd fs))) (fun _ _ _ => False) r s' →
      (∃ u, r = .ok (.ret u) ∧ u = Value.none ∧ L2N.MkP X pins σ Q (.ref (n + 1)) s') ∨ ∃ er, r = .error er ∧ X.xe er s' := fun r s' hq' => by
    match r, hq' with
    | .error er, hq' => exact .inr ⟨er, rfl, hx pins σ _ _ er s' I2 hq'⟩
    | .ok (.ret u), hq' =>
      obtain ⟨v, H2, os2, bare2, un2, hok2, rv, ev, d, fs, ea, ed, hd1, q2⟩ := hq'
      subst ev
      obtain ⟨h2, g2, d2, t2, os'⟩ := s'
      obtain ⟨t0, G, J, kG, ge, hoe, na⟩ := mk_end0 (d2 := d2) (t2 := t2) I1 le1 grow un2 hok2 os2 bare2 ea ed hd1
      refine .inl ⟨u, rfl, rv, n + 1, _, _, ⟨G, g2, d2, t2, os'⟩, _, .ref C, some d, rfl, J, kG, ge, hoe, ⟨rfl, rfl, fun ws hw => ?_⟩, rfl, rfl, na, rfl, bare2, raises_own T.exC T.tyC, q2⟩
      cases hw; rfl
    | .ok .next, hq' => exact hq'.elim
    | .ok .brk, hq' => exact hq'.elim
    | .ok .cont, hq' => exact hq'.elim
  refine wpAny_call (PySem.HandSPX.call_own F.excBase_ValueError (fun Y => PySem.HandSPX.refsVE_contains Y bm hbm) (I1.kIn _ _ hC) (PySem.W.looks_findIn I1.kIn iC) (fun self => PySem.W.bind_fn I1.kIn self tI) few (codeAny_mono run1 fun r s' z => ?_))
  rcases beh r s' z with ⟨u, rfl, e, y⟩ | ⟨er, rfl, y⟩
  · exact ⟨e, y⟩
  · exact y
/-! ### a def that is handed the exception in hand -/
structure FnP (P : Program) (w : World) (K : PySem.W.Frag) (mg : Str → Option Value) (base : Heap) (k : Nat) (f : Addr) (fd : FuncData) (ps : List Str) (sp : Addr × Obj → Sp) : Prop where
  many : ∀ p vs H Q E, sp p vs H Q E → vs.length = ps.length
  goes : ∀ (p : Addr × Obj) (A : Around) (outer : List Env) (s : Shared) (H : Hp) (args : Args) (us : List Value) (vs : List V) (Q : VK) (E : XK), RoomH k A → Hot1 A p → PinOk outer H s p → Env0 P w K mg base A outer s H → BindsTo s fd args (ps.zip us) →
    Vals vs us → sp p vs H Q E → codeAny (model P w) A (.call (.ref f) args) (CR CX0 outer P w H s Q E) s
section
variable {P : Program} {w : World} {K : PySem.W.Frag} {mg : Str → Option Value} {base : Heap}
theorem okP {x qual : Str} {st : Stmt} {f : Addr} {fd : FuncData} {N ps : List Str} {k : Nat} {sp : Addr × Obj → Sp} (F : Fun K x qual st f fd) (S : FnScope N ps (defScope st)) (len : ∀ p vs H Q E, sp p vs H Q E → vs.length = ps.length)
    (bd : ∀ (p : Addr × Obj) (cdv : Value) (A : Around) (outer : List Env) (s : Shared) (H : Hp) (vs : List V) (Q : VK) (E : XK), Hot1 A p → RoomH k (A.deeper (envOfC qual (defScope st) s.heap.objs.size f cdv)) → sp p vs H Q E →
      ∃ t, PSs (cxH CX0 P w K mg base N qual (defScope st) f cdv A outer s H E p).nox (defBody st) t ∧ t { nx := fun _ H' => Q .non H', rt := Q } (L2.start N vs) H) : FnP P w K mg base (k + 1) f fd ps sp := by
  obtain ⟨_, _, kV, doc, pm, an, cdv, ct, _, rfl, l1, l2⟩ := F.ex
  refine ⟨len, fun p A outer s H args us vs Q E r0 hot hpin e0 hb r hsp => ?_⟩
  have many := len _ _ _ _ _ hsp
  have KX : K.In s.heap := e0.mod.kin.keeps fun b o e => (e0.bs b o e).1
  have lm : s.heap.NoLimit := e0.mod.nolimit.keeps fun b o e => (e0.bs b o e).1
  refine codeAny_call_function r0.depth (KX _ _ l1) rfl S.co S.gen rfl (PySem.W.codeRec_of KX l2) (hb _ _ _ _ (wpAny_newFunctionEnv_cells S.kind (fun y hy => ?_) fun env he s1 z => ?_))
  · obtain ⟨n, v⟩ := y
    exact (S.par n (List.of_mem_zip hy).1).imp (fun q => q) fun q => ⟨q, PySem.W.cellsFrom_some _ _ _ (.inl q)⟩
  subst he
  obtain ⟨t, ht, hq⟩ := bd p cdv A outer s H vs Q E hot (r0.deeper _) hsp
  have I := inv_startH (CX := CX0) (E := E) S hpin e0 many r z
  refine ⟨lm.keeps z.toInCall.keep, codeAny_func (wpAny_mono (ht.nox.run [] s1 (L2.start N vs) H _ I hq) (fun fl s' hs => ?_) fun _ _ y => y)⟩
  match fl, hs with
  | .ret u, ⟨v, σ', H', J, rv, q⟩ => exact ⟨v, H', J.os, J.bare, J.base, J.hok, rv, q⟩
  | .next, ⟨σ', H', J, q⟩ => exact ⟨V.non, H', J.os, J.bare, J.base, J.hok, (rfl : Value.none = Value.none), q⟩
  | .brk, ⟨_, _, _, q⟩ => exact q.elim
  | .cont, ⟨_, _, _, q⟩ => exact q.elim
theorem okH {x qual : Str} {st : Stmt} {f : Addr} {fd : FuncData} {N ps : List Str} {k : Nat} {sp : Sp} (F : Fun K x qual st f fd) (S : FnScope N ps (defScope st)) (len : ∀ vs H Q E, sp vs H Q E → vs.length = ps.length)
    (bd : ∀ (p : Addr × Obj) (cdv : Value) (A : Around) (outer : List Env) (s : Shared) (H : Hp) (vs : List V) (Q : VK) (E : XK), Hot1 A p → RoomH k (A.deeper (envOfC qual (defScope st) s.heap.objs.size f cdv)) → sp vs H Q E →
      ∃ t, PSs (cxH CX0 P w K mg base N qual (defScope st) f cdv A outer s H E p).nox (defBody st) t ∧ t { nx := fun _ H' => Q .non H', rt := Q } (L2.start N vs) H) : FnH P w K mg base CX0 (k + 1) f fd ps sp :=
  have F1 : FnP P w K mg base (k + 1) f fd ps (fun _ => sp) := okP F S (fun _ => len) bd
  ⟨len, fun A outer s H args us vs Q E p h1 h2 h3 h4 h5 h6 h7 => F1.goes p A outer s H args us vs Q E h1 h2 h3 h4 h5 h6 h7⟩
end
theorem fnH_vac {P : Program} {w : World} {K : PySem.W.Frag} {mg : Str → Option Value} {base : Heap} {k : Nat} {f : Addr} {fd : FuncData} {ps : List Str} {sp : Sp} (h : ∀ vs H Q E, ¬ sp vs H Q E) : FnH P w K mg base CX0 k f fd ps sp :=
  ⟨fun vs H Q E z => absurd z (h vs H Q E), fun _ _ _ H _ _ vs Q E _ _ _ _ _ _ _ z => absurd z (h vs H Q E)⟩
theorem hotOf {X : Cx} {p : Addr × Obj} (h : Hot1 X.A p) (m : p ∈ X.pn) : HotC X := ⟨p, h, m⟩
section
variable {X : Cx} {k : Nat} {f : Addr} {fd : FuncData} {ps : List Str} {sp : Addr × Obj → Sp} {x : Str} {q pos : Pos} {e : Expr} {es : List Expr} {t : TA} {p : Addr × Obj}
def tCallP (sp : Addr × Obj → Sp) (p : Addr × Obj) (t : TA) : TE := fun σ H Q => t σ H fun vs H1 => sp p vs H1 Q E0
/-- the call that hands it on -/
theorem pe_callP (F : FnP X.prog X.w X.K X.mg X.base k f fd ps sp) (hr : RoomH k X.A) (hot : Hot1 X.A p) (hp : p ∈ X.pn) (hg : Gl X x) (hm : X.mg x = some (.ref f)) (hk : PySem.W.keepIn X.K (.ref f) = true) (hb : Binds X.K fd ps [])
    (ha : PA X (e :: es) t) (hdb : (x == ("__debug__" : Str)) = false := by decide) (he : starEach (e :: es) X.env = (false, eval e X.env) :: starEach es X.env := by rfl) (hpl : (backTo pos (starEach es X.env)).any (·.1) = false := by rfl) :
    PE X (.Call (.Name x q) (e :: es) [] pos) (tCallP sp p t) := by
  refine ⟨fun pins s σ H Q I h => wpAny_Call_Name_kw (ld_glob I hg hm (PySem.W.callWith_K (h₀ := X.base) I.ok.mod.kin hk (thn (ha.run pos pins s σ H _ I h) fun us s1 ⟨vs, H1, I1, r, q⟩ => ⟨I1.kIn, ?_⟩) he hpl) hdb)⟩
  have ln : us.length = ps.length := by rw [← r.length]; exact F.many _ _ _ _ _ q
  have b := hb s1 us I1.kIn (by rw [List.append_nil]; exact ln)
  rw [List.append_nil] at b
  obtain ⟨p1, p2, p3, p4, p5⟩ := I1.pin p (List.mem_append_left _ hp)
  have ok : PinOk X.stack H1 s1 p := ⟨p1, p2, fun m => (List.mem_cons.mp (I1.stkSub p.1 m)).elim p3 p4, p5⟩
  refine wpAny_call (codeAny_mono (F.goes p X.A X.stack s1 H1 ⟨us, []⟩ us vs Q E0 hr hot ok I1.env0 b r q) fun o s2 ho => ?_)
  match o, ho with
  | .error _, ho => exact ho.elim
  | .ok (.ret _), ho => exact I1.after ho
  | .ok .next, ho => exact ho.elim
  | .ok .brk, ho => exact ho.elim
  | .ok .cont, ho => exact ho.elim
end
/-! ### what such a def asks of it -/
section
variable {X : Cx} {a C : Addr} {oe : Obj} {cls : Value} {d : Option Addr}
theorem inst_p {dd : Addr} {fs : List (Str × V)} {pins : List (Addr × Obj)} {σ : L2.St} {H : Hp} {s : Shared} (hp : (a, oe) ∈ X.pn) (hz : Zc cls d oe) (hf : ∃ vs, oe.data = .fields vs) (I : Inv X pins σ H s) (e1 : cls = .ref C) (e2 : d = some dd) (e3 : H dd = some (.xd fs)) :
    ∃ od, PySem.W.InstAt s.heap a oe C od := by
  subst e1 e2
  obtain ⟨g, _⟩ := I.pin (a, oe) (List.mem_append_left _ hp)
  obtain ⟨vs, hd⟩ := hf
  obtain ⟨_, n, _⟩ := (show ObjOk X.prog X.w H s.heap dd (.xd fs) from I.hok dd _ e3)
  obtain ⟨od, ho, _⟩ := lookIn_ns n
  exact ⟨some od, g, hz.1, by unfold PySem.W.notCls; rw [hd] <;> rfl, by rw [hz.2]; exact ho⟩
theorem call_isP (hp : (a, oe) ∈ X.pn) (hz : Zc cls d oe) (hf : ∃ vs, oe.data = .fields vs) : CallR X (.builtin "isinstance") (rIsX X.K a cls d) := by
  rintro ps₁ s₁ τ G xs us R J r ⟨C, dd, fs, c, u, b, e1, e2, e3, T, rfl, k, e, q⟩
  obtain ⟨v1, v2, rfl, w1, w2⟩ := vals2 r
  obtain rfl := k.eq w2
  obtain rfl : v1 = Value.ref a := w1
  obtain ⟨od, y⟩ := inst_p hp hz hf J e1 e2 e3
  exact PySem.W.kia_one (PySem.W.kitx_exc T.hc T.hg T.hk T.hs T.ha T.hn T.ht T.hm) J.kIn y e (fun z => nomatch z) fun tk => ⟨.bl b, G, J.tok tk, rfl, q⟩
theorem pe_xfP {e : Expr} {te : TE} {pos : Pos} {n : Str} (T : XfC X.K C) (hno : PySem.W.findIn X.K (.ref C) n = some none) (hp : (a, oe) ∈ X.pn) (hz : Zc cls d oe) (hf : ∃ vs, oe.data = .fields vs) (he : PE X e te)
    (hb : attributeBase e n X.env (eval e X.env) = eval e X.env := by rfl) : PE X (.Attribute e n pos) (tXf a cls d C n te) := by
  refine ⟨fun pins s σ H Q I h => attr_of hb (thn (he.run pins s σ H _ I h) fun u s1 ⟨x, H1, I1, rx, ex, ec, dd, fs, v, ed, ea, l, q⟩ => ?_)⟩
  subst ex ec ed
  obtain rfl : u = Value.ref a := rx
  obtain ⟨mA, n1, n2⟩ := (show ObjOk X.prog X.w H1 s1.heap dd (.xd fs) from I1.hok dd _ ea)
  obtain ⟨od, ho, hl⟩ := lookIn_ns n1
  obtain ⟨u, hu, ru⟩ := RelO.some_of (v := v) (o := mA n) (by rw [← l]; exact n2 n)
  obtain ⟨vs, hd⟩ := hf
  have J : PySem.W.InstAt s1.heap a oe C (some od) := ⟨(I1.pin (a, oe) (List.mem_append_left _ hp)).1, hz.1, by unfold PySem.W.notCls; rw [hd] <;> rfl, by rw [hz.2]; exact ho⟩
  exact HandSPX.exc_get I1.kIn J T.ga T.gg T.exC (PySem.W.findObj_own T.hdC hno rfl (by rw [hl, hu])) (handed_of ru) ⟨v, H1, I1.tok _, ru, q⟩
end
/-- the exception that a suite holds is hot -/
theorem hot_suite {X : Cx} {a : Addr} {oe : Obj} {cls : Value} {d : Option Addr} {pn : List (Addr × Obj)} (hz : L2N.Zn cls d oe) (hf : ∃ vs, oe.data = .fields vs) : Hot1 (X.suite a ((a, oe) :: pn)).A (a, oe) := by
  obtain ⟨vs, e⟩ := hf
  exact ⟨rfl, vs, e, hz.2.2 vs e⟩
end Lk

set_option Elab.async false
set_option linter.all false
set_option maxRecDepth 100000
set_option maxHeartbeats 2000000
namespace Lk
open PySem PySem.Spec PyProof.Rows L2
def top (i : Nat) : Stmt := PySem.Challenge.pw_linkneed_k28_whole_transfers_and_fewest.main.body.getD i (.Pass ⟨0, 0, 0, 0⟩)
abbrev s_NotUsable___init__ : Stmt := inClass (top 3) 0
abbrev sl_NotUsable___init__ : List Str := ["self", "word", "at"]
theorem sc_NotUsable___init__ : FnScope sl_NotUsable___init__ ["self", "word", "at"] (defScope s_NotUsable___init__) := ⟨rfl, rfl, rfl, by decide +kernel, rfl, by decide +kernel, by decide +kernel⟩
abbrev s_is_integer : Stmt := top 5
abbrev sl_is_integer : List Str := ["thing"]
theorem sc_is_integer : FnScope sl_is_integer ["thing"] (defScope s_is_integer) := ⟨rfl, rfl, rfl, by decide +kernel, rfl, by decide +kernel, by decide +kernel⟩
abbrev s_is_number : Stmt := top 6
abbrev sl_is_number : List Str := ["thing"]
theorem sc_is_number : FnScope sl_is_number ["thing"] (defScope s_is_number) := ⟨rfl, rfl, rfl, by decide +kernel, rfl, by decide +kernel, by decide +kernel⟩
abbrev s_is_transfers : Stmt := top 8
abbrev sl_is_transfers : List Str := ["thing", "pair", "one", "other"]
theorem sc_is_transfers : FnScope sl_is_transfers ["thing"] (defScope s_is_transfers) := ⟨rfl, rfl, rfl, by decide +kernel, rfl, by decide +kernel, by decide +kernel⟩
abbrev s__is_pair : Stmt := top 9
abbrev sl__is_pair : List Str := ["thing"]
theorem sc__is_pair : FnScope sl__is_pair ["thing"] (defScope s__is_pair) := ⟨rfl, rfl, rfl, by decide +kernel, rfl, by decide +kernel, by decide +kernel⟩
abbrev s_transfer_rows : Stmt := top 10
abbrev sl_transfer_rows : List Str := ["pairs", "pending", "rows", "froms", "free", "to"]
theorem sc_transfer_rows : FnScope sl_transfer_rows ["pairs"] (defScope s_transfer_rows) := ⟨rfl, rfl, rfl, by decide +kernel, rfl, by decide +kernel, by decide +kernel⟩
abbrev s__swapped : Stmt := top 11
abbrev sl__swapped : List Str := ["pending", "to", "other", "one"]
theorem sc__swapped : FnScope sl__swapped ["pending"] (defScope s__swapped) := ⟨rfl, rfl, rfl, by decide +kernel, rfl, by decide +kernel, by decide +kernel⟩
abbrev s_unlike_pairs : Stmt := top 12
abbrev sl_unlike_pairs : List Str := ["pairs"]
theorem sc_unlike_pairs : FnScope sl_unlike_pairs ["pairs"] (defScope s_unlike_pairs) := ⟨rfl, rfl, rfl, by decide +kernel, rfl, by decide +kernel, by decide +kernel⟩
abbrev s_closed_rings : Stmt := top 13
abbrev sl_closed_rings : List Str := ["pairs", "froms", "met", "many", "start", "at"]
theorem sc_closed_rings : FnScope sl_closed_rings ["pairs"] (defScope s_closed_rings) := ⟨rfl, rfl, rfl, by decide +kernel, rfl, by decide +kernel, by decide +kernel⟩
abbrev s__unlike : Stmt := top 14
abbrev sl__unlike : List Str := ["pairs", "to", "other"]
theorem sc__unlike : FnScope sl__unlike ["pairs"] (defScope s__unlike) := ⟨rfl, rfl, rfl, by decide +kernel, rfl, by decide +kernel, by decide +kernel⟩
abbrev s_moved_by : Stmt := top 15
abbrev sl_moved_by : List Str := ["rows", "words", "cells", "verb", "one", "other", "row"]
theorem sc_moved_by : FnScope sl_moved_by ["rows", "words"] (defScope s_moved_by) := ⟨rfl, rfl, rfl, by decide +kernel, rfl, by decide +kernel, by decide +kernel⟩
abbrev s__is_moving_row : Stmt := top 16
abbrev sl__is_moving_row : List Str := ["thing", "many", "cell"]
theorem sc__is_moving_row : FnScope sl__is_moving_row ["thing", "many"] (defScope s__is_moving_row) := ⟨rfl, rfl, rfl, by decide +kernel, rfl, by decide +kernel, by decide +kernel⟩
abbrev s__law_feed : Stmt := top 18
abbrev sl__law_feed : List Str := ["_law_script", "_law_cell"]
theorem sc__law_feed : FnScope sl__law_feed ["_law_script"] (defScope s__law_feed) := ⟨rfl, rfl, rfl, by decide +kernel, rfl, by decide +kernel, by decide +kernel⟩
abbrev s__law_take : Stmt := top 19
abbrev sl__law_take : List Str := ["_law_feed_here", "_law_many", "_law_cell", "_law_got"]
theorem sc__law_take : FnScope sl__law_take ["_law_feed_here", "_law_many"] (defScope s__law_take) := ⟨rfl, rfl, rfl, by decide +kernel, rfl, by decide +kernel, by decide +kernel⟩
abbrev s__law_same : Stmt := top 20
abbrev sl__law_same : List Str := ["_law_got", "_law_due", "_law_k"]
theorem sc__law_same : FnScope sl__law_same ["_law_got", "_law_due"] (defScope s__law_same) := ⟨rfl, rfl, rfl, by decide +kernel, rfl, by decide +kernel, by decide +kernel⟩
abbrev s__law_refusal : Stmt := top 21
abbrev sl__law_refusal : List Str := ["_law_e", "_law_name"]
theorem sc__law_refusal : FnScope sl__law_refusal ["_law_e", "_law_name"] (defScope s__law_refusal) := ⟨rfl, rfl, rfl, by decide +kernel, rfl, by decide +kernel, by decide +kernel⟩
abbrev s__law_by_hand : Stmt := top 22
abbrev sl__law_by_hand : List Str := ["_law_number", "_law_menu", "_law_due", "_law_told", "_law_got"]
theorem sc__law_by_hand : FnScope sl__law_by_hand ["_law_number"] (defScope s__law_by_hand) := ⟨rfl, rfl, rfl, by decide +kernel, rfl, by decide +kernel, by decide +kernel⟩
abbrev s__law_picked : Stmt := top 23
abbrev sl__law_picked : List Str := ["_law_feed_here", "_law_pool", "_law_many", "_law_left", "_law_out", "_law_k"]
theorem sc__law_picked : FnScope sl__law_picked ["_law_feed_here", "_law_pool", "_law_many"] (defScope s__law_picked) := ⟨rfl, rfl, rfl, by decide +kernel, rfl, by decide +kernel, by decide +kernel⟩
abbrev s__law_drawn : Stmt := top 24
abbrev sl__law_drawn : List Str := ["_law_feed_here", "_law_many", "_law_wide", "_law_scale", "_law_tos", "_law_froms", "_law_way", "_law_cut", "_law_k", "_law_add"]
theorem sc__law_drawn : FnScope sl__law_drawn ["_law_feed_here"] (defScope s__law_drawn) := ⟨rfl, rfl, rfl, by decide +kernel, rfl, by decide +kernel, by decide +kernel⟩
abbrev s__law_rows : Stmt := top 25
abbrev sl__law_rows : List Str := ["_law_got", "_law_left", "_law_made", "_law_lap", "_law_froms", "_law_free", "_law_first", "_law_rest", "_law_pair"]
theorem sc__law_rows : FnScope sl__law_rows ["_law_got"] (defScope s__law_rows) := ⟨rfl, rfl, rfl, by decide +kernel, rfl, by decide +kernel, by decide +kernel⟩
abbrev s__law_counts : Stmt := top 26
abbrev sl__law_counts : List Str := ["_law_got", "_law_source", "_law_pair", "_law_rings", "_law_start", "_law_here", "_law_least", "_law_lap"]
theorem sc__law_counts : FnScope sl__law_counts ["_law_got"] (defScope s__law_counts) := ⟨rfl, rfl, rfl, by decide +kernel, rfl, by decide +kernel, by decide +kernel⟩
abbrev s__law_run : Stmt := top 27
abbrev sl__law_run : List Str := ["_law_made", "_law_held", "_law_now", "_law_step", "_law_kept"]
theorem sc__law_run : FnScope sl__law_run ["_law_made", "_law_held"] (defScope s__law_run) := ⟨rfl, rfl, rfl, by decide +kernel, rfl, by decide +kernel, by decide +kernel⟩
abbrev s__law_did : Stmt := top 28
abbrev sl__law_did : List Str := ["_law_got", "_law_held", "_law_now", "_law_pair"]
theorem sc__law_did : FnScope sl__law_did ["_law_got", "_law_held", "_law_now"] (defScope s__law_did) := ⟨rfl, rfl, rfl, by decide +kernel, rfl, by decide +kernel, by decide +kernel⟩
abbrev s__law_other : Stmt := top 29
abbrev sl__law_other : List Str := ["_law_feed_here", "_law_wide", "_law_many", "_law_made", "_law_k"]
theorem sc__law_other : FnScope sl__law_other ["_law_feed_here", "_law_wide", "_law_many"] (defScope s__law_other) := ⟨rfl, rfl, rfl, by decide +kernel, rfl, by decide +kernel, by decide +kernel⟩
abbrev s__law_reads_as : Stmt := top 30
abbrev sl__law_reads_as : List Str := ["_law_x", "_law_pair", "_law_r", "_law_k"]
theorem sc__law_reads_as : FnScope sl__law_reads_as ["_law_x"] (defScope s__law_reads_as) := ⟨rfl, rfl, rfl, by decide +kernel, rfl, by decide +kernel, by decide +kernel⟩
abbrev s__law_thing : Stmt := top 31
abbrev sl__law_thing : List Str := ["_law_number", "_law_got", "_law_far", "_law_menu"]
theorem sc__law_thing : FnScope sl__law_thing ["_law_number", "_law_got"] (defScope s__law_thing) := ⟨rfl, rfl, rfl, by decide +kernel, rfl, by decide +kernel, by decide +kernel⟩
abbrev s__law_pairs_refused : Stmt := top 32
abbrev sl__law_pairs_refused : List Str := ["_law_x", "_law_way", "_law_e"]
theorem sc__law_pairs_refused : FnScope sl__law_pairs_refused ["_law_x", "_law_way"] (defScope s__law_pairs_refused) := ⟨rfl, rfl, rfl, by decide +kernel, rfl, by decide +kernel, by decide +kernel⟩
abbrev s__law_rows_refused : Stmt := top 33
abbrev sl__law_rows_refused : List Str := ["_law_number", "_law_held", "_law_wide", "_law_menu", "_law_e"]
theorem sc__law_rows_refused : FnScope sl__law_rows_refused ["_law_number", "_law_held"] (defScope s__law_rows_refused) := ⟨rfl, rfl, rfl, by decide +kernel, rfl, by decide +kernel, by decide +kernel⟩
abbrev s_law : Stmt := top 34
abbrev sl_law : List Str := ["_law_script", "_law_feed_here", "_law_got", "_law_wide", "_law_held", "_law_due", "_law_counts_here", "_law_told", "_law_now", "_law_tos", "_law_gone", "_law_less", "_law_other_here", "_law_x", "_law_pair", "_law_k", "_law_r"]
theorem sc_law : FnScope sl_law ["_law_script"] (defScope s_law) := ⟨rfl, rfl, rfl, by decide +kernel, rfl, by decide +kernel, by decide +kernel⟩
structure Txt (K : PySem.W.Frag) (mg : Str → Option Value) where
  C_NeedError : Addr
  mC_NeedError : mg "NeedError" = some (.ref C_NeedError)
  C_UnitError : Addr
  mC_UnitError : mg "UnitError" = some (.ref C_UnitError)
  C_NotUsable : Addr
  mC_NotUsable : mg "NotUsable" = some (.ref C_NotUsable)
  f_NotUsable__init__ : Addr
  d_NotUsable__init__ : FuncData
  F_NotUsable__init__ : Fun K "__init__" "NotUsable.__init__" s_NotUsable___init__ f_NotUsable__init__ d_NotUsable__init__
  b_NotUsable__init__ : Binds K d_NotUsable__init__ ["self", "word", "at"] []
  f_is_integer : Addr
  d_is_integer : FuncData
  F_is_integer : Fun K "is_integer" "is_integer" s_is_integer f_is_integer d_is_integer
  m_is_integer : mg "is_integer" = some (.ref f_is_integer)
  k_is_integer : PySem.W.keepIn K (.ref f_is_integer) = true
  b_is_integer : Binds K d_is_integer ["thing"] []
  f_is_number : Addr
  d_is_number : FuncData
  F_is_number : Fun K "is_number" "is_number" s_is_number f_is_number d_is_number
  m_is_number : mg "is_number" = some (.ref f_is_number)
  k_is_number : PySem.W.keepIn K (.ref f_is_number) = true
  b_is_number : Binds K d_is_number ["thing"] []
  f_is_transfers : Addr
  d_is_transfers : FuncData
  F_is_transfers : Fun K "is_transfers" "is_transfers" s_is_transfers f_is_transfers d_is_transfers
  m_is_transfers : mg "is_transfers" = some (.ref f_is_transfers)
  k_is_transfers : PySem.W.keepIn K (.ref f_is_transfers) = true
  b_is_transfers : Binds K d_is_transfers ["thing"] []
  w_is_transfers_thing : KBinds K d_is_transfers ["thing"] ["thing"] (fun us ws => match us, ws with | [], [a] => [a] | _, _ => []) (fun vs zs => match vs, zs with | [], [a] => [a] | _, _ => [])
  f__is_pair : Addr
  d__is_pair : FuncData
  F__is_pair : Fun K "_is_pair" "_is_pair" s__is_pair f__is_pair d__is_pair
  m__is_pair : mg "_is_pair" = some (.ref f__is_pair)
  k__is_pair : PySem.W.keepIn K (.ref f__is_pair) = true
  b__is_pair : Binds K d__is_pair ["thing"] []
  f_transfer_rows : Addr
  d_transfer_rows : FuncData
  F_transfer_rows : Fun K "transfer_rows" "transfer_rows" s_transfer_rows f_transfer_rows d_transfer_rows
  m_transfer_rows : mg "transfer_rows" = some (.ref f_transfer_rows)
  k_transfer_rows : PySem.W.keepIn K (.ref f_transfer_rows) = true
  b_transfer_rows : Binds K d_transfer_rows ["pairs"] []
  w_transfer_rows_pairs : KBinds K d_transfer_rows ["pairs"] ["pairs"] (fun us ws => match us, ws with | [], [a] => [a] | _, _ => []) (fun vs zs => match vs, zs with | [], [a] => [a] | _, _ => [])
  f__swapped : Addr
  d__swapped : FuncData
  F__swapped : Fun K "_swapped" "_swapped" s__swapped f__swapped d__swapped
  m__swapped : mg "_swapped" = some (.ref f__swapped)
  k__swapped : PySem.W.keepIn K (.ref f__swapped) = true
  b__swapped : Binds K d__swapped ["pending"] []
  f_unlike_pairs : Addr
  d_unlike_pairs : FuncData
  F_unlike_pairs : Fun K "unlike_pairs" "unlike_pairs" s_unlike_pairs f_unlike_pairs d_unlike_pairs
  m_unlike_pairs : mg "unlike_pairs" = some (.ref f_unlike_pairs)
  k_unlike_pairs : PySem.W.keepIn K (.ref f_unlike_pairs) = true
  b_unlike_pairs : Binds K d_unlike_pairs ["pairs"] []
  w_unlike_pairs_pairs : KBinds K d_unlike_pairs ["pairs"] ["pairs"] (fun us ws => match us, ws with | [], [a] => [a] | _, _ => []) (fun vs zs => match vs, zs with | [], [a] => [a] | _, _ => [])
  f_closed_rings : Addr
  d_closed_rings : FuncData
  F_closed_rings : Fun K "closed_rings" "closed_rings" s_closed_rings f_closed_rings d_closed_rings
  m_closed_rings : mg "closed_rings" = some (.ref f_closed_rings)
  k_closed_rings : PySem.W.keepIn K (.ref f_closed_rings) = true
  b_closed_rings : Binds K d_closed_rings ["pairs"] []
  w_closed_rings_pairs : KBinds K d_closed_rings ["pairs"] ["pairs"] (fun us ws => match us, ws with | [], [a] => [a] | _, _ => []) (fun vs zs => match vs, zs with | [], [a] => [a] | _, _ => [])
  f__unlike : Addr
  d__unlike : FuncData
  F__unlike : Fun K "_unlike" "_unlike" s__unlike f__unlike d__unlike
  m__unlike : mg "_unlike" = some (.ref f__unlike)
  k__unlike : PySem.W.keepIn K (.ref f__unlike) = true
  b__unlike : Binds K d__unlike ["pairs"] []
  f_moved_by : Addr
  d_moved_by : FuncData
  F_moved_by : Fun K "moved_by" "moved_by" s_moved_by f_moved_by d_moved_by
  m_moved_by : mg "moved_by" = some (.ref f_moved_by)
  k_moved_by : PySem.W.keepIn K (.ref f_moved_by) = true
  b_moved_by : Binds K d_moved_by ["rows", "words"] []
  w_moved_by_rows_words : KBinds K d_moved_by ["rows", "words"] ["rows", "words"] (fun us ws => match us, ws with | [], [a, b] => [a, b] | _, _ => []) (fun vs zs => match vs, zs with | [], [a, b] => [a, b] | _, _ => [])
  f__is_moving_row : Addr
  d__is_moving_row : FuncData
  F__is_moving_row : Fun K "_is_moving_row" "_is_moving_row" s__is_moving_row f__is_moving_row d__is_moving_row
  m__is_moving_row : mg "_is_moving_row" = some (.ref f__is_moving_row)
  k__is_moving_row : PySem.W.keepIn K (.ref f__is_moving_row) = true
  b__is_moving_row : Binds K d__is_moving_row ["thing", "many"] []
  f__law_feed : Addr
  d__law_feed : FuncData
  F__law_feed : Fun K "_law_feed" "_law_feed" s__law_feed f__law_feed d__law_feed
  m__law_feed : mg "_law_feed" = some (.ref f__law_feed)
  k__law_feed : PySem.W.keepIn K (.ref f__law_feed) = true
  b__law_feed : Binds K d__law_feed ["_law_script"] []
  f__law_take : Addr
  d__law_take : FuncData
  F__law_take : Fun K "_law_take" "_law_take" s__law_take f__law_take d__law_take
  m__law_take : mg "_law_take" = some (.ref f__law_take)
  k__law_take : PySem.W.keepIn K (.ref f__law_take) = true
  b__law_take : Binds K d__law_take ["_law_feed_here", "_law_many"] []
  f__law_same : Addr
  d__law_same : FuncData
  F__law_same : Fun K "_law_same" "_law_same" s__law_same f__law_same d__law_same
  m__law_same : mg "_law_same" = some (.ref f__law_same)
  k__law_same : PySem.W.keepIn K (.ref f__law_same) = true
  b__law_same : Binds K d__law_same ["_law_got", "_law_due"] []
  f__law_refusal : Addr
  d__law_refusal : FuncData
  F__law_refusal : Fun K "_law_refusal" "_law_refusal" s__law_refusal f__law_refusal d__law_refusal
  m__law_refusal : mg "_law_refusal" = some (.ref f__law_refusal)
  k__law_refusal : PySem.W.keepIn K (.ref f__law_refusal) = true
  b__law_refusal : Binds K d__law_refusal ["_law_e", "_law_name"] []
  f__law_by_hand : Addr
  d__law_by_hand : FuncData
  F__law_by_hand : Fun K "_law_by_hand" "_law_by_hand" s__law_by_hand f__law_by_hand d__law_by_hand
  m__law_by_hand : mg "_law_by_hand" = some (.ref f__law_by_hand)
  k__law_by_hand : PySem.W.keepIn K (.ref f__law_by_hand) = true
  b__law_by_hand : Binds K d__law_by_hand ["_law_number"] []
  f__law_picked : Addr
  d__law_picked : FuncData
  F__law_picked : Fun K "_law_picked" "_law_picked" s__law_picked f__law_picked d__law_picked
  m__law_picked : mg "_law_picked" = some (.ref f__law_picked)
  k__law_picked : PySem.W.keepIn K (.ref f__law_picked) = true
  b__law_picked : Binds K d__law_picked ["_law_feed_here", "_law_pool", "_law_many"] []
  f__law_drawn : Addr
  d__law_drawn : FuncData
  F__law_drawn : Fun K "_law_drawn" "_law_drawn" s__law_drawn f__law_drawn d__law_drawn
  m__law_drawn : mg "_law_drawn" = some (.ref f__law_drawn)
  k__law_drawn : PySem.W.keepIn K (.ref f__law_drawn) = true
  b__law_drawn : Binds K d__law_drawn ["_law_feed_here"] []
  f__law_rows : Addr
  d__law_rows : FuncData
  F__law_rows : Fun K "_law_rows" "_law_rows" s__law_rows f__law_rows d__law_rows
  m__law_rows : mg "_law_rows" = some (.ref f__law_rows)
  k__law_rows : PySem.W.keepIn K (.ref f__law_rows) = true
  b__law_rows : Binds K d__law_rows ["_law_got"] []
  f__law_counts : Addr
  d__law_counts : FuncData
  F__law_counts : Fun K "_law_counts" "_law_counts" s__law_counts f__law_counts d__law_counts
  m__law_counts : mg "_law_counts" = some (.ref f__law_counts)
  k__law_counts : PySem.W.keepIn K (.ref f__law_counts) = true
  b__law_counts : Binds K d__law_counts ["_law_got"] []
  f__law_run : Addr
  d__law_run : FuncData
  F__law_run : Fun K "_law_run" "_law_run" s__law_run f__law_run d__law_run
  m__law_run : mg "_law_run" = some (.ref f__law_run)
  k__law_run : PySem.W.keepIn K (.ref f__law_run) = true
  b__law_run : Binds K d__law_run ["_law_made", "_law_held"] []
  f__law_did : Addr
  d__law_did : FuncData
  F__law_did : Fun K "_law_did" "_law_did" s__law_did f__law_did d__law_did
  m__law_did : mg "_law_did" = some (.ref f__law_did)
  k__law_did : PySem.W.keepIn K (.ref f__law_did) = true
  b__law_did : Binds K d__law_did ["_law_got", "_law_held", "_law_now"] []
  f__law_other : Addr
  d__law_other : FuncData
  F__law_other : Fun K "_law_other" "_law_other" s__law_other f__law_other d__law_other
  m__law_other : mg "_law_other" = some (.ref f__law_other)
  k__law_other : PySem.W.keepIn K (.ref f__law_other) = true
  b__law_other : Binds K d__law_other ["_law_feed_here", "_law_wide", "_law_many"] []
  f__law_reads_as : Addr
  d__law_reads_as : FuncData
  F__law_reads_as : Fun K "_law_reads_as" "_law_reads_as" s__law_reads_as f__law_reads_as d__law_reads_as
  m__law_reads_as : mg "_law_reads_as" = some (.ref f__law_reads_as)
  k__law_reads_as : PySem.W.keepIn K (.ref f__law_reads_as) = true
  b__law_reads_as : Binds K d__law_reads_as ["_law_x"] []
  f__law_thing : Addr
  d__law_thing : FuncData
  F__law_thing : Fun K "_law_thing" "_law_thing" s__law_thing f__law_thing d__law_thing
  m__law_thing : mg "_law_thing" = some (.ref f__law_thing)
  k__law_thing : PySem.W.keepIn K (.ref f__law_thing) = true
  b__law_thing : Binds K d__law_thing ["_law_number", "_law_got"] []
  f__law_pairs_refused : Addr
  d__law_pairs_refused : FuncData
  F__law_pairs_refused : Fun K "_law_pairs_refused" "_law_pairs_refused" s__law_pairs_refused f__law_pairs_refused d__law_pairs_refused
  m__law_pairs_refused : mg "_law_pairs_refused" = some (.ref f__law_pairs_refused)
  k__law_pairs_refused : PySem.W.keepIn K (.ref f__law_pairs_refused) = true
  b__law_pairs_refused : Binds K d__law_pairs_refused ["_law_x", "_law_way"] []
  f__law_rows_refused : Addr
  d__law_rows_refused : FuncData
  F__law_rows_refused : Fun K "_law_rows_refused" "_law_rows_refused" s__law_rows_refused f__law_rows_refused d__law_rows_refused
  m__law_rows_refused : mg "_law_rows_refused" = some (.ref f__law_rows_refused)
  k__law_rows_refused : PySem.W.keepIn K (.ref f__law_rows_refused) = true
  b__law_rows_refused : Binds K d__law_rows_refused ["_law_number", "_law_held"] []
  f_law : Addr
  d_law : FuncData
  F_law : Fun K "law" "law" s_law f_law d_law
  m_law : mg "law" = some (.ref f_law)
  k_law : PySem.W.keepIn K (.ref f_law) = true
  b_law : Binds K d_law ["_law_script"] []
  x_NotUsable : OexC K C_NotUsable
  xk_NotUsable : ExcK K C_NotUsable
  xf_NotUsable : XfC K C_NotUsable
  i_NotUsable : PySem.W.findIn K (.ref C_NotUsable) "__init__" = some (some (.ref f_NotUsable__init__))
  t_NotUsable : PySem.W.typeIn K (.ref f_NotUsable__init__) = some (.type "function")
  n_NotUsable_word : PySem.W.findIn K (.ref C_NotUsable) "word" = some none
  n_NotUsable_at : PySem.W.findIn K (.ref C_NotUsable) "at" = some none
  ex_NotUsable_NeedError : PySem.W.exmOne K (.ref C_NotUsable) (.ref C_NeedError) = some true
  is_NotUsable_NotUsable : PySem.W.kitOne K (.ref C_NotUsable) (.ref C_NotUsable) = some true
  is_NotUsable_UnitError : PySem.W.kitOne K (.ref C_NotUsable) (.ref C_UnitError) = some true
  z_isinstance : mg "isinstance" = none
  z_int : mg "int" = none
  z_bool : mg "bool" = none
  z_all : mg "all" = none
  z_tuple : mg "tuple" = none
  z_zip : mg "zip" = none
  z_len : mg "len" = none
  z_list : mg "list" = none
  z_min : mg "min" = none
  z_range : mg "range" = none
  z_str : mg "str" = none
  z_sorted : mg "sorted" = none
  z_max : mg "max" = none
theorem hu1 {A : Around} {k : Nat} (hr : Room k A) : A.units + 1 < cLine := by have := hr.un; omega
/-! ### data: transfers and rows -/
def tlen : PyData → Nat
  | .tuple ds => ds.length
  | _ => 0
def fstI : PyData → Int
  | .tuple (.int a :: _) => a
  | _ => 0
def sndI : PyData → Int
  | .tuple [_, .int b] => b
  | _ => 0
def isPr : PyData → Bool
  | .tuple [a, b] => isN a && isN b
  | _ => false
def ascD (ds : List PyData) : Bool := (ds.zip (ds.drop 1)).all fun p => decide (fstI p.1 < fstI p.2)
def isT : PyData → Bool
  | .tuple ds => ds.all isPr && ascD ds
  | _ => false
def prsOf : PyData → List Pr
  | .tuple ds => ds.map fun d => (fstI d, sndI d)
  | _ => []
def prD (p : Pr) : PyData := .tuple [.int p.1, .int p.2]
def prsD (L : List Pr) : PyData := .tuple (L.map prD)
def vb (b : Bool) : Str := if b then "move" else "swap"
def rwD (r : Rw) : PyData := .tuple [.str (vb r.1), .int r.2.1, .int r.2.2]
def rwsD (R : List Rw) : PyData := .tuple (R.map rwD)
def unl (L : List Pr) : List Pr := L.filter fun p => decide (p.1 ≠ p.2)
def dkv (L : List Pr) : List (Key × V) := L.map fun p => (Sum.inl p.1, V.int p.2)
/-! ### promises -/
def notUsable (C : Addr) (n : Str) (H : Hp) (E : XK) : Prop := ∀ (d : Addr) (H' : Hp), Same H H' → H d = none → H' d = some (.xd [("at", .int (-1)), ("word", .str n)]) → E (.ref C) (some d) H'
def spInit (C : Addr) : Sp := fun vs H Q _ => ∃ (a : Addr) (x y : V), vs = [.ref a, x, y] ∧ H a = some (exo a C none) ∧
  ∀ (d : Addr) (H' : Hp), H d = none → d ≠ a → H' a = some (exo a C (some d)) → H' d = some (exd d [("at", y), ("word", x)]) → (∀ b o, b ≠ a → H b = some o → H' b = some o) → Q .non H'
def sp1 (g : PyData → Bool) (K : PySem.W.Frag) : Sp := fun vs H Q _ => ∃ (x : V) (d : PyData), vs = [x] ∧ Dp K H x d ∧ Q (.bl (g d)) H
def spIsT (K : PySem.W.Frag) : Sp := fun vs H Q _ => ∃ (x : V) (d : PyData), vs = [x] ∧ Dp K H x d ∧ tlen d ≤ 1000 ∧ ∀ H', Same H H' → Q (.bl (isT d)) H'
def spUnlG (K : PySem.W.Frag) : Sp := fun vs H Q _ => ∃ (x : V) (d : PyData), vs = [x] ∧ Dp K H x d ∧ tlen d ≤ 1000 ∧ isT d = true ∧ ∀ p H', Same H H' → H p = none → H' p = some (.dK (dkv (unl (prsOf d)))) → Q (.ref p) H'
def spUnlB (C : Addr) (K : PySem.W.Frag) : Sp := fun vs H Q E => ∃ (x : V) (d : PyData), vs = [x] ∧ Dp K H x d ∧ tlen d ≤ 1000 ∧ isT d = false ∧ notUsable C "pairs" H E
section
variable {P : Program} {w : World} {K : PySem.W.Frag} {mg : Str → Option Value} {base : Heap}
theorem fn_vac {CX : CXT} {k : Nat} {f : Addr} {fd : FuncData} {ps : List Str} {sp : Sp} (h : ∀ vs H Q E, ¬ sp vs H Q E) : FnOk P w K mg base CX k f fd ps sp :=
  ⟨fun vs H Q E z => absurd z (h vs H Q E), fun _ _ _ H _ _ vs Q E _ _ _ _ z => absurd z (h vs H Q E)⟩
theorem ok_init (T : Txt K mg) : FnOk P w K mg base CX0 1 T.f_NotUsable__init__ T.d_NotUsable__init__ ["self", "word", "at"] (spInit T.C_NotUsable) := by
  have nd := sc_NotUsable___init__.nd
  refine T.F_NotUsable__init__.ok sc_NotUsable___init__ (fun vs H Q E h => ?_) (fun cdv A outer s H vs Q E hr h => ?_)
  · obtain ⟨a, x, y, rfl, _⟩ := h
    rfl
  obtain ⟨a, x, y, rfl, ha, k⟩ := h
  refine ⟨_, (pss_cons (ps_ost (pv 0) (pv 1))
      (pss_one (ps_ost (pv 0) (pv 2)))), ?_⟩
  refine ⟨_, rfl, _, rfl, a, T.C_NotUsable, rfl, T.x_NotUsable, T.n_NotUsable_word, .inl ⟨ha, fun d hd hda => ?_⟩⟩
  refine ⟨_, rfl, _, rfl, a, T.C_NotUsable, rfl, T.x_NotUsable, T.n_NotUsable_at, .inr ⟨d, [("word", x)], ?_, ?_, (by show 1 ≤ 900; decide), ?_⟩⟩
  · exact upd_same
  · rw [upd_ne hda]; exact upd_same
  · refine k d _ hd hda ?_ ?_ ?_
    · rw [upd_ne hda.symm, upd_same]
    · exact upd_same
    · intro b o hb e
      have hbd : b ≠ d := ne_of_none e hd
      rw [upd_ne hbd, upd_ne hb, upd_ne hbd]
      exact e
/-- what a made and raised NotUsable asks -/
theorem made {T : Txt K mg} {H : Hp} {n : Str} {E : XK} (k : ∀ (d : Addr) (H' : Hp), Same H H' → H d = none → H' d = some (.xd [("at", .int (-1)), ("word", .str n)]) → E (.ref T.C_NotUsable) (some d) H') :
    ∀ a, H a = none → spInit T.C_NotUsable [.ref a, .str n, .int (-1)] (upd H a (exo a T.C_NotUsable none))
      (fun v H2 => v = .non ∧ ∃ (d : Addr) (fs : List (Str × V)), H2 a = some (exo a T.C_NotUsable (some d)) ∧ H2 d = some (exd d fs) ∧ H d = none ∧ E (.ref T.C_NotUsable) (some d) (upd (del H2 a) d (.xd fs))) (fun _ _ _ => False) := by
  intro a ha
  refine ⟨a, _, _, rfl, upd_same, fun d H' hd hda e1 e2 e3 => ⟨rfl, d, _, e1, e2, ?_, ?_⟩⟩
  · rw [upd_ne hda] at hd
    exact hd
  · rw [upd_ne hda] at hd
    refine k d _ (fun b o e => ?_) hd upd_same
    have hbd : b ≠ d := ne_of_none e hd
    have hba : b ≠ a := ne_of_none e ha
    rw [upd_ne hbd, del_ne hba]
    exact e3 b o hba (by rw [upd_ne hba]; exact e)
theorem kit_tup {K : PySem.W.Frag} {H : Hp} {v : V} {d : PyData} (h : Dp K H v d) : PySem.W.kitOne K (.type (tyN d)) (.type "tuple") = some (match d with | .tuple _ => true | _ => false) := by
  cases h with
  | non => exact kit_ty (a := "NoneType") (b := "tuple") (r := false) (by decide +kernel)
  | bl b => exact kit_ty (a := "bool") (b := "tuple") (r := false) (by decide +kernel)
  | int i => exact kit_ty (a := "int") (b := "tuple") (r := false) (by decide +kernel)
  | str x => exact kit_ty (a := "str") (b := "tuple") (r := false) (by decide +kernel)
  | lst h a => exact kit_ty (a := "list") (b := "tuple") (r := false) (by decide +kernel)
  | tup h a => exact kit_ty (a := "tuple") (b := "tuple") (r := true) (by decide +kernel)
theorem ok_is_integer (T : Txt K mg) : FnOk P w K mg base CX0 1 T.f_is_integer T.d_is_integer ["thing"] (sp1 isI K) := by
  have nd := sc_is_integer.nd
  refine T.F_is_integer.ok sc_is_integer (fun vs H Q E h => ?_) (fun cdv A outer s H vs Q E hr h => ?_)
  · obtain ⟨x, d, rfl, _⟩ := h
    rfl
  obtain ⟨x, d, rfl, hd, k⟩ := h
  refine ⟨_, (pss_one (ps_ret (pe_and (pe_callB call_isi (by rfl) T.z_isinstance (by decide +kernel) (pa_cons (pv 0) (pa_cons (pe_bltn (v := .ty "int") rfl T.z_int (by decide +kernel) rfl) pa_nil))) (pe_one (pe_not (pe_callB call_isi (by rfl) T.z_isinstance (by decide +kernel) (pa_cons (pv 0) (pa_cons (pe_bltn (v := .ty "bool") rfl T.z_bool (by decide +kernel) rfl) pa_nil)))))))), ?_⟩
  refine ⟨_, rfl, x, .ty "int", _, _, _, rfl, .ty "int", ty_of hd, kit_int hd, _, rfl, ?_⟩
  refine ite2 (fun c => ?_) (fun c => ?_)
  · refine ⟨_, rfl, x, .ty "bool", _, _, _, rfl, .ty "bool", ty_of hd, kit_bool hd, _, rfl, ?_⟩
    have e : (!isB d) = isI d := by cases hd <;> first | rfl | (simp [isI, isB] at c)
    rw [e]
    exact k
  · have e : isI d = false := by cases hd <;> first | rfl | (exact absurd rfl c)
    rw [e] at k
    exact k
theorem ok_is_number (T : Txt K mg) : FnOk P w K mg base CX0 2 T.f_is_number T.d_is_number ["thing"] (sp1 isN K) := by
  have nd := sc_is_number.nd
  refine T.F_is_number.ok sc_is_number (fun vs H Q E h => ?_) (fun cdv A outer s H vs Q E hr h => ?_)
  · obtain ⟨x, d, rfl, _⟩ := h
    rfl
  obtain ⟨x, d, rfl, hd, k⟩ := h
  have G_is_integer : FnOk P w K mg base CX0 1 _ _ _ (sp1 isI K) := ok_is_integer T
  have hr_is_integer := hr
  refine ⟨_, (pss_one (ps_ret (pe_and (pe_call G_is_integer hr_is_integer rfl T.m_is_integer T.k_is_integer T.b_is_integer .nil pass0 (pa_cons (pv 0) pa_nil)) (pe_one (pe_cmpR op_ge (pv 0) pe_int (nomark _)))))), ?_⟩
  refine ⟨_, rfl, x, d, rfl, hd, _, rfl, ?_⟩
  refine ite2 (fun c => ?_) (fun c => ?_)
  · obtain ⟨i, rfl, rfl⟩ := isI_int hd c
    exact ⟨_, rfl, _, _, rfl, rfl, k⟩
  · have e : isN d = false := by cases hd <;> first | rfl | (exact absurd rfl c)
    rw [e] at k
    exact k
theorem ok_is_pair (T : Txt K mg) : FnOk P w K mg base CX0 3 T.f__is_pair T.d__is_pair ["thing"] (sp1 isPr K) := by
  have nd := sc__is_pair.nd
  refine T.F__is_pair.ok sc__is_pair (fun vs H Q E h => ?_) (fun cdv A outer s H vs Q E hr h => ?_)
  · obtain ⟨x, d, rfl, _⟩ := h
    rfl
  obtain ⟨x, d, rfl, hd, k⟩ := h
  have G_is_number : FnOk P w K mg base CX0 2 _ _ _ (sp1 isN K) := ok_is_number T
  have hr_is_number := hr
  refine ⟨_, (pss_one (ps_ret (pe_and (pe_callB call_isi (by rfl) T.z_isinstance (by decide +kernel) (pa_cons (pv 0) (pa_cons (pe_bltn (v := .ty "tuple") rfl T.z_tuple (by decide +kernel) rfl) pa_nil))) (pe_and (pe_cmpR op_eq (pe_callB call_len_seq (by rfl) T.z_len PySem.boot_len (pa_cons (pv 0) pa_nil)) pe_int (nomark _)) (pe_and (pe_call G_is_number hr_is_number rfl T.m_is_number T.k_is_number T.b_is_number .nil pass0 (pa_cons (pe_ix ix_tup (pv 0) pe_int (fun _ _ => rfl)) pa_nil)) (pe_one (pe_call G_is_number hr_is_number rfl T.m_is_number T.k_is_number T.b_is_number .nil pass0 (pa_cons (pe_ix ix_tup (pv 0) pe_int (fun _ _ => rfl)) pa_nil)))))))), ?_⟩
  refine ⟨_, rfl, x, .ty "tuple", _, _, _, rfl, .ty "tuple", ty_of hd, kit_tup hd, _, rfl, ?_⟩
  cases hd with
  | non => exact iteF k
  | bl b => exact iteF k
  | int i => exact iteF k
  | str z => exact iteF k
  | lst h a => exact iteF k
  | @tup a xs ds ha hx =>
    have hl := dp_len hx
    refine iteT ?_
    refine ⟨_, rfl, a, xs, rfl, .inr ha, rfl, _, rfl, ?_⟩
    match ds, hx, hl, k with
    | [d0, d1], hx, hl, k =>
      obtain ⟨x0, x1, rfl⟩ : ∃ x0 x1, xs = [x0, x1] := by
        match xs, hl with
        | [x0, x1], _ => exact ⟨x0, x1, rfl⟩
      obtain ⟨h0, h1⟩ : Dp K H x0 d0 ∧ Dp K H x1 d1 := by
        cases hx with
        | cons h0 t => cases t with
          | cons h1 _ => exact ⟨h0, h1⟩
      refine iteT ?_
      refine ⟨_, rfl, a, _, _, _, rfl, rfl, ha, atI_nat (show [x0, x1][0]? = some x0 from rfl), x0, d0, rfl, h0, _, rfl, ?_⟩
      have e : isPr (.tuple [d0, d1]) = (isN d0 && isN d1) := rfl
      rw [e] at k
      refine ite2 (fun c => ?_) (fun c => ?_)
      · rw [c, Bool.true_and] at k
        exact ⟨_, rfl, a, _, _, _, rfl, rfl, ha, atI_nat (show [x0, x1][1]? = some x1 from rfl), x1, d1, rfl, h1, k⟩
      · rw [Bool.eq_false_iff.mpr c] at k
        exact k
    | [], _, hl, k => exact ite2 (fun c => absurd (of_decide_eq_true c) fun z => by have := V.int.inj z; rw [hl] at this; simp at this) fun _ => k
    | [d0], _, hl, k => exact ite2 (fun c => absurd (of_decide_eq_true c) fun z => by have := V.int.inj z; rw [hl] at this; simp at this) fun _ => k
    | d0 :: d1 :: d2 :: r, _, hl, k => exact ite2 (fun c => absurd (of_decide_eq_true c) fun z => by have := V.int.inj z; rw [hl] at this; simp at this; omega) fun _ => k
end
end Lk

set_option Elab.async false
set_option linter.all false
set_option maxRecDepth 100000
set_option maxHeartbeats 2000000
namespace Lk
open PySem PySem.Spec PyProof.Rows L2
section
variable {P : Program} {w : World} {K : PySem.W.Frag} {mg : Str → Option Value} {base : Heap}
theorem none_of {H H1 : Hp} {d : Addr} (e : Same H H1) (h : H1 d = none) : H d = none := by
  cases q : H d with
  | none => rfl
  | some o => rw [e d o q] at h; cases h
theorem pr_of {H : Hp} {x : V} {d : PyData} (h : Dp K H x d) (e : isPr d = true) : ∃ (a : Addr) (i j : Int), x = .ref a ∧ d = prD (i, j) ∧ SqT K H a [.int i, .int j] ∧ 0 ≤ i ∧ 0 ≤ j := by
  cases h with
  | non => cases e
  | bl b => cases e
  | int i => cases e
  | str z => cases e
  | lst h a => cases e
  | @tup a xs ds ha hx =>
    match ds, hx, e with
    | [d0, d1], hx, e =>
      have e' : (isN d0 && isN d1) = true := e
      obtain ⟨e0, e1⟩ := Bool.and_eq_true_iff.mp e'
      cases hx with
      | cons h0 t =>
        cases t with
        | cons h1 t2 =>
          cases t2
          cases h0 with
          | int i =>
            cases h1 with
            | int j => exact ⟨a, i, j, rfl, rfl, ha, of_decide_eq_true e0, of_decide_eq_true e1⟩
            | _ => cases e1
          | _ => cases e0
    | [], _, e => cases e
    | [d0], _, e => cases e
    | d0 :: d1 :: d2 :: r, _, e => cases e
theorem isT_eq (ds : List PyData) : isT (.tuple ds) = (ds.all isPr && ascD ds) := rfl
theorem ok_is_transfers (T : Txt K mg) : FnOk P w K mg base CX0 4 T.f_is_transfers T.d_is_transfers ["thing"] (spIsT K) := by
  have nd := sc_is_transfers.nd
  refine T.F_is_transfers.ok sc_is_transfers (fun vs H Q E h => ?_) (fun cdv A outer s H vs Q E hr h => ?_)
  · obtain ⟨x, d, rfl, _⟩ := h
    rfl
  obtain ⟨x, d, rfl, hd, ht, k⟩ := h
  have G__is_pair : FnOk P w K mg base CX0 3 _ _ _ (sp1 isPr K) := ok_is_pair T
  have hr__is_pair := hr
  refine ⟨_, (pss_cons (ps_if (PW.pt (pw_or (pt_not (pt_val (pe_callB call_isi (by rfl) T.z_isinstance (by decide +kernel) (pa_cons (pv 0) (pa_cons (pe_bltn (v := .ty "tuple") rfl T.z_tuple (by decide +kernel) rfl) pa_nil))))) (pw_or1 (pt_not (pt_val (pe_callB (cr_all rfl) (by rfl) T.z_all (by decide +kernel) (pa_cons (pe_lc (own := [("pair", 1)]) (g := gName 1) (tt := tYes) (by rfl) nd (pi_tup (pv 0)) (blkOk_by (own := [("pair", 1)]) (N := sl_is_transfers) (sc := defScope s_is_transfers) (by decide +kernel)) (fun _ _ _ _ _ => pg_name (i := 1) nd rfl (Or.inl rfl)) (fun _ _ _ _ _ => pts_nil) (fun _ _ _ _ _ => (pe_call G__is_pair hr__is_pair rfl T.m__is_pair T.k__is_pair T.b__is_pair .nil pass0 (pa_cons (pv 1) pa_nil)))) pa_nil))))))) (pss_one (ps_ret pe_bl)) pss_nil)
      (pss_one (ps_ret (pe_callB (cr_all rfl) (by rfl) T.z_all (by decide +kernel) (pa_cons (pe_lc (own := [("one", 2), ("other", 3)]) (g := gTup K 2 (gCons (gName 2) (gCons (gName 3) gNil))) (tt := tYes) (by rfl) nd (RZ.pi_zipA (by rfl) T.z_zip (pa_cons (pv 0) (pa_cons (pe_slice sl_tupS (pv 0) (po_some pe_int) po_none) pa_nil))) (blkOk_by (own := [("one", 2), ("other", 3)]) (N := sl_is_transfers) (sc := defScope s_is_transfers) (by decide +kernel)) (fun _ _ _ _ _ => by exact (pg_tup rfl (pgs_cons (pg_name (i := 2) nd rfl (Or.inl rfl)) (pgs_cons (pg_name (i := 3) nd rfl (Or.inl rfl)) pgs_nil)))) (fun _ _ _ _ _ => pts_nil) (fun _ _ _ _ _ => (pe_cmpR op_lt (pe_ix (ix_tupK (K := K) rfl) (pv 2) pe_int (fun _ _ => rfl)) (pe_ix (ix_tupK (K := K) rfl) (pv 3) pe_int (fun _ _ => rfl)) (nomark _)))) pa_nil))))), ?_⟩
  refine ⟨_, rfl, x, .ty "tuple", _, _, _, rfl, .ty "tuple", ty_of hd, kit_tup hd, _, rfl, ?_⟩
  cases hd with
  | non => exact k H (Same.refl _)
  | bl b => exact k H (Same.refl _)
  | int i => exact k H (Same.refl _)
  | str z => exact k H (Same.refl _)
  | lst h a => exact k H (Same.refl _)
  | @tup a xs ds ha hx =>
    have hl := dp_len hx
    have hz : ds.length ≤ 1000 := ht
    refine ⟨_, rfl, a, rfl, ⟨_, ha⟩, fun D hD => ?_⟩
    refine lc_tup (K := K) (a := a) (xs := xs) (fun i H' => Same H H' ∧ H' D = some (.lst (((ds.take i).map isPr).map V.bl))) ?_ ?_ ?_ ?_
    · exact ⟨same_new hD _, upd_same⟩
    · rintro i H' _ ⟨e, _⟩
      exact seqT_same e ha
    · rintro i x H' hix ⟨e, hDl⟩
      obtain ⟨d, _, hdi, hdx⟩ := dp_get hx hix
      refine ⟨rfl, _, rfl, x, d, rfl, dp_same e hdx, ?_⟩
      have hi : i < ds.length := (List.getElem?_eq_some_iff.mp hdi).1
      refine ⟨_, hDl, (by rw [List.length_map, List.length_map, List.length_take]; exact szl (by omega)), same_mut e hD, ?_⟩
      rw [upd_same, List.take_succ, hdi, List.map_append, List.map_append]
      rfl
    · rintro H1 ⟨e, hDl⟩
      rw [hl, List.take_length] at hDl
      refine ⟨D, _, rfl, SqL.of hDl, _, rfl, ?_⟩
      have ea : ((ds.map isPr).all id) = ds.all isPr := by rw [List.all_map]; rfl
      rw [ea]
      rw [isT_eq] at k
      cases hw : ds.all isPr with
      | false =>
        rw [hw, Bool.false_and] at k
        exact iteT (k H1 e)
      | true =>
        rw [hw, Bool.true_and] at k
        refine iteF ?_
        have hall : ∀ d ∈ ds, isPr d = true := fun d m => List.all_eq_true.mp hw d m
        have hx1 := dpAll_same e hx
        refine ⟨_, rfl, _, rfl, _, rfl, a, _, rfl, seqT_same e ha, fun p1 H2 e2 h1 => ?_⟩
        have h1' : SqT K H2 p1 (xs.drop 1) := cut_lo (n := 1) ▸ h1
        refine ⟨a, p1, xs, xs.drop 1, rfl, .inr ⟨seqT_same e2 (seqT_same e ha), h1', fun D2 hD2 => ?_⟩⟩
        have hx2 := dpAll_same e2 hx1
        have hzl : (ds.zip (ds.drop 1)).length = ds.length - 1 := by rw [List.length_zip, List.length_drop]; omega
        refine lc_it (walk_zipT (xs := xs) (ys := xs.drop 1) (n := ds.length - 1) (by rw [List.length_drop, hl]; omega)) (fun i H' => Same H2 H' ∧ H' D2 = some (.lst (((ds.zip (ds.drop 1)).take i).map fun p => V.bl (decide (fstI p.1 < fstI p.2))))) ?_ ?_ ?_ ?_
        · exact ⟨same_new hD2 _, upd_same⟩
        · rintro i H' _ ⟨e3, _⟩
          exact ⟨seqT_same e3 (seqT_same e2 (seqT_same e ha)), seqT_same e3 h1'⟩
        · rintro i x H3 H4 hi ⟨e3, hDl⟩ ⟨TT, y, z, rfl, hTT, rfl, hy, hz⟩
          obtain ⟨d1, _, hd1, hdy⟩ := dp_get hx2 hy
          have hz' : xs[i + 1]? = some z := by
            have hz0 : (xs.drop 1)[i]? = some z := hz
            rw [List.getElem?_drop, Nat.add_comm] at hz0; exact hz0
          obtain ⟨d2, _, hd2, hdz⟩ := dp_get hx2 hz'
          obtain ⟨a1, i1, j1, rfl, rfl, ha1, _⟩ := pr_of hdy (hall _ (List.mem_of_getElem? hd1))
          obtain ⟨a2, i2, j2, rfl, rfl, ha2, _⟩ := pr_of hdz (hall _ (List.mem_of_getElem? hd2))
          have e4 : Same H3 (upd H3 TT (.tup [.ref a1, .ref a2])) := same_new hTT _
          have hzi : (ds.zip (ds.drop 1))[i]? = some (prD (i1, j1), prD (i2, j2)) := by
            rw [List.getElem?_zip_eq_some]
            exact ⟨hd1, by rw [List.getElem?_drop, Nat.add_comm]; exact hd2⟩
          refine ⟨TT, _, rfl, SqT.of upd_same, rfl, _, _, rfl, _, _, rfl, rfl, ?_⟩
          refine ⟨rfl, ?_⟩
          refine ⟨_, rfl, a1, _, _, _, rfl, rfl, seqT_same e4 (seqT_same e3 ha1), atI_nat (show [V.int i1, V.int j1][0]? = some (V.int i1) from rfl), ?_⟩
          refine ⟨_, rfl, a2, _, _, _, rfl, rfl, seqT_same e4 (seqT_same e3 ha2), atI_nat (show [V.int i2, V.int j2][0]? = some (V.int i2) from rfl), ?_⟩
          refine ⟨_, _, rfl, rfl, ?_⟩
          refine ⟨_, e4 _ _ hDl, (by rw [List.length_map, List.length_take]; exact szl (by omega)), same_mut (e3.trans e4) hD2, ?_⟩
          rw [upd_same, List.take_succ, hzi, List.map_append]
          rfl
        · rintro H3 ⟨e3, hDl⟩
          rw [← hzl, List.take_length] at hDl
          have ek : ((ds.zip (ds.drop 1)).map fun p => V.bl (decide (fstI p.1 < fstI p.2))) = ((ds.zip (ds.drop 1)).map fun p => decide (fstI p.1 < fstI p.2)).map V.bl := by rw [List.map_map]; rfl
          rw [ek] at hDl
          have ea2 : (((ds.zip (ds.drop 1)).map fun p => decide (fstI p.1 < fstI p.2)).all id) = ascD ds := by rw [List.all_map]; rfl
          refine ⟨D2, _, rfl, SqL.of hDl, ?_⟩
          rw [ea2]
          exact k H3 (e.trans (e2.trans e3))
theorem ok_unlikeB (T : Txt K mg) : FnOk P w K mg base (L2N.CX P w) 5 T.f__unlike T.d__unlike ["pairs"] (spUnlB T.C_NotUsable K) := by
  have nd := sc__unlike.nd
  refine okXN T.F__unlike sc__unlike (fun vs H Q E h => ?_) (fun cdv A outer s H vs Q E hr h => ?_)
  · obtain ⟨x, d, rfl, _⟩ := h
    rfl
  obtain ⟨x, d, rfl, hd, ht, hT, k⟩ := h
  have G_is_transfers : FnOk P w K mg base CX0 4 _ _ _ (spIsT K) := ok_is_transfers T
  have hr_is_transfers := hr
  have G_NotUsable__init__ : FnOk P w K mg base CX0 1 _ _ _ (spInit T.C_NotUsable) := ok_init T
  have hr_NotUsable__init__ := hr.mono (j := 2) (by omega)
  refine ⟨_, (pss_cons (ps_if (pt_not (pt_val (pe_call G_is_transfers hr_is_transfers rfl T.m_is_transfers T.k_is_transfers T.b_is_transfers .nil pass0 (pa_cons (pv 0) pa_nil)))) (pss_one (L2N.ps_raise rfl (L2N.takes_of rfl rfl rfl rfl) (pmk_oexN T.x_NotUsable T.i_NotUsable T.t_NotUsable G_NotUsable__init__ hr_NotUsable__init__ T.b_NotUsable__init__ .nil pass0 rfl T.mC_NotUsable (by exact (pa_cons pe_str (pa_cons (pe_un un_neg pe_int) pa_nil)))))) pss_nil)
      (pss_one ps_never)), ?_⟩
  refine ⟨_, rfl, x, d, rfl, hd, ht, fun H1 e1 => ?_⟩
  rw [hT]
  refine ⟨_, rfl, ?_⟩
  refine iteT ?_
  exact ⟨_, rfl, (by show 2 ≤ 1000; decide), made fun d1 H2 e2 hn he => k d1 H2 (e1.trans e2) (none_of e1 hn) he⟩
theorem isT_tup {H : Hp} {x : V} {d : PyData} (h : Dp K H x d) (e : isT d = true) : ∃ (a : Addr) (xs : List V) (ds : List PyData), x = .ref a ∧ d = .tuple ds ∧ SqT K H a xs ∧ DpAll K H xs ds ∧ (∀ d ∈ ds, isPr d = true) ∧ ascD ds = true := by
  cases h with
  | non => cases e
  | bl b => cases e
  | int i => cases e
  | str z => cases e
  | lst h a => cases e
  | @tup a xs ds ha hx =>
    rw [isT_eq] at e
    obtain ⟨e1, e2⟩ := Bool.and_eq_true_iff.mp e
    exact ⟨a, xs, ds, rfl, rfl, ha, hx, fun d m => List.all_eq_true.mp e1 d m, e2⟩
theorem ascD_pw : ∀ {ds : List PyData}, ascD ds = true → (ds.map fstI).Pairwise (· < ·)
  | [], _ => .nil
  | [d], _ => by simp
  | a :: b :: r, h => by
    have h' : (decide (fstI a < fstI b) && ascD (b :: r)) = true := h
    obtain ⟨h1, h2⟩ := Bool.and_eq_true_iff.mp h'
    have ih := ascD_pw h2
    have lt := of_decide_eq_true h1
    refine List.pairwise_cons.mpr ⟨fun y m => ?_, ih⟩
    rcases List.mem_cons.mp (show y ∈ fstI b :: r.map fstI from m) with e | m
    · rw [e]; exact lt
    · have := (List.pairwise_cons.mp (show (fstI b :: r.map fstI).Pairwise (· < ·) from ih)).1 y m
      omega
theorem tos_prs (ds : List PyData) : tos (prsOf (.tuple ds)) = ds.map fstI := by
  show ((ds.map fun d => (fstI d, sndI d)).map Prod.fst) = _
  rw [List.map_map]; rfl
theorem unl_good {d : PyData} (h : isT d = true) : GoodL (unl (prsOf d)) := by
  match d, h with
  | .tuple ds, h =>
    rw [isT_eq] at h
    obtain ⟨e1, e2⟩ := Bool.and_eq_true_iff.mp h
    have pw := ascD_pw e2
    rw [← tos_prs] at pw
    exact ⟨pw.sublist ((List.filter_sublist ..).map _), fun p m => of_decide_eq_true (List.mem_filter.mp m).2⟩
theorem ne_t {i j : Int} (h : i ≠ j) : (!decide (V.int i = V.int j)) = true := by rw [decide_eq_false fun z => h (V.int.inj z)]; rfl
theorem ne_f {i j : Int} (h : i = j) : (!decide (V.int i = V.int j)) = false := by rw [decide_eq_true (congrArg V.int h)]; rfl
theorem dkv_none {L : List Pr} {t : Int} (h : t ∉ tos L) : valV (dkv L) (Sum.inl t) = none := by
  induction L with
  | nil => rfl
  | cons p L ih =>
    have hp : p.1 ≠ t := fun e => h (by rw [← e]; exact List.mem_cons_self)
    show valV ((Sum.inl p.1, V.int p.2) :: dkv L) (Sum.inl t) = none
    rw [valV_neg (fun e => hp (Sum.inl.inj e))]
    exact ih fun m => h (List.mem_cons_of_mem _ m)
theorem unl_snoc (L : List Pr) (p : Pr) : unl (L ++ [p]) = unl L ++ (if p.1 = p.2 then [] else [p]) := by
  unfold unl
  rw [List.filter_append]
  congr 1
  by_cases c : p.1 = p.2
  · rw [if_pos c]; simp [List.filter, c]
  · rw [if_neg c]; simp [List.filter, c]
theorem ok_unlikeG (T : Txt K mg) : FnOk P w K mg base CX0 5 T.f__unlike T.d__unlike ["pairs"] (spUnlG K) := by
  have nd := sc__unlike.nd
  refine T.F__unlike.ok sc__unlike (fun vs H Q E h => ?_) (fun cdv A outer s H vs Q E hr h => ?_)
  · obtain ⟨x, d, rfl, _⟩ := h
    rfl
  obtain ⟨x, d, rfl, hd, ht, hT, k⟩ := h
  have G_is_transfers : FnOk P w K mg base CX0 4 _ _ _ (spIsT K) := ok_is_transfers T
  have hr_is_transfers := hr
  refine ⟨_, (pss_cons (ps_if (pt_not (pt_val (pe_call G_is_transfers hr_is_transfers rfl T.m_is_transfers T.k_is_transfers T.b_is_transfers .nil pass0 (pa_cons (pv 0) pa_nil)))) (pss_one ps_never) pss_nil)
      (pss_one (ps_ret (pe_dc (own := [("to", 1), ("other", 2)]) (g := gTup K 2 (gCons (gName 1) (gCons (gName 2) gNil))) (by rfl) nd (pi_tup (pv 0)) (blkOk_by (own := [("to", 1), ("other", 2)]) (N := sl__unlike) (sc := defScope s__unlike) (by decide +kernel)) (fun _ _ _ _ _ => by exact (pg_tup rfl (pgs_cons (pg_name (i := 1) nd rfl (Or.inl rfl)) (pgs_cons (pg_name (i := 2) nd rfl (Or.inl rfl)) pgs_nil)))) (fun _ _ _ _ _ => (pts_one (pt_cmpR op_ne (pv 1) (pv 2) (nomark _)))) (fun _ _ _ _ _ => (pv 1)) (fun _ _ _ _ _ => (pv 2)))))), ?_⟩
  refine ⟨_, rfl, x, d, rfl, hd, ht, fun H1 e1 => ?_⟩
  rw [hT]
  refine ⟨_, rfl, ?_⟩
  refine iteF ?_
  obtain ⟨a, xs, ds, rfl, rfl, ha, hx, hall, hasc⟩ := isT_tup (dp_same e1 hd) hT
  have hl := dp_len hx
  have hz : ds.length ≤ 1000 := ht
  have pw := ascD_pw hasc
  refine ⟨_, rfl, a, rfl, ⟨_, ha⟩, fun D hD => ?_⟩
  refine dc_tup (K := K) (a := a) (xs := xs) (fun i H' => Same H1 H' ∧ H' D = some (.dK (dkv (unl (prsOf (.tuple (ds.take i))))))) ?_ ?_ ?_ ?_
  · exact ⟨same_new hD _, upd_same⟩
  · rintro i H' _ ⟨e, _⟩
    exact seqT_same e ha
  · rintro i x H' hix ⟨e, hDl⟩
    obtain ⟨d1, _, hdi, hdx⟩ := dp_get hx hix
    obtain ⟨a1, i1, j1, rfl, rfl, ha1, _⟩ := pr_of (dp_same e hdx) (hall _ (List.mem_of_getElem? hdi))
    have hi : i < ds.length := (List.getElem?_eq_some_iff.mp hdi).1
    refine ⟨a1, _, rfl, ha1, rfl, _, _, rfl, _, _, rfl, rfl, ?_⟩
    refine ⟨rfl, ?_⟩
    have ep : prsOf (.tuple (ds.take (i + 1))) = prsOf (.tuple (ds.take i)) ++ [(i1, j1)] := by
      show ((ds.take (i + 1)).map fun d => (fstI d, sndI d)) = (ds.take i).map (fun d => (fstI d, sndI d)) ++ _
      rw [List.take_succ, hdi, List.map_append]; rfl
    rw [ep, unl_snoc]
    refine ⟨_, rfl, _, rfl, rfl, _, rfl, ?_⟩
    by_cases c : i1 = j1
    · refine ifF (ne_f c) ?_
      rw [if_pos c, List.append_nil]
      exact ⟨e, hDl⟩
    · refine ifT (ne_t c) ?_
      refine ⟨_, rfl, _, rfl, _, Sum.inl i1, rfl, hDl, ?_, ?_⟩
      · refine szl ?_
        have h1 : (dkv (unl (prsOf (.tuple (ds.take i))))).length ≤ (ds.take i).length := by
          show (List.map _ _).length ≤ _
          rw [List.length_map]
          refine Nat.le_trans (List.length_filter_le _ _) ?_
          show (List.map _ _).length ≤ _
          rw [List.length_map]; exact Nat.le_refl _
        rw [List.length_take] at h1
        omega
      · refine ⟨same_mut e hD, ?_⟩
        rw [upd_same, if_neg c]
        have hno : i1 ∉ tos (unl (prsOf (.tuple (ds.take i)))) := fun m => by
          obtain ⟨p, mp, ep1⟩ := List.mem_map.mp m
          have mp' := (List.mem_filter.mp mp).1
          have m2 : i1 ∈ (ds.take i).map fstI := by
            rw [← tos_prs]; exact List.mem_map.mpr ⟨p, mp', ep1⟩
          have pw2 : ((ds.take i).map fstI ++ (ds.drop i).map fstI).Pairwise (· < ·) := by rw [← List.map_append, List.take_append_drop]; exact pw
          have m3 : i1 ∈ (ds.drop i).map fstI := by
            rw [List.drop_eq_getElem_cons hi]
            have : ds[i] = prD (i1, j1) := Option.some.inj ((List.getElem?_eq_getElem hi).symm.trans hdi)
            rw [this]; exact List.mem_cons_self
          have := (List.pairwise_append.mp pw2).2.2 i1 m2 i1 m3
          omega
        rw [putK_new _ (dkv_none hno)]
        show some (HO.dK (dkv _ ++ _)) = some (HO.dK ((_ : List Pr).map _))
        rw [List.map_append]; rfl
  · rintro H2 ⟨e, hDl⟩
    rw [hl, List.take_length] at hDl
    exact k D H2 (e1.trans e) (none_of e1 hD) hDl
end
end Lk

set_option Elab.async false
set_option linter.all false
set_option maxRecDepth 100000
set_option maxHeartbeats 2000000
namespace Lk
open PySem PySem.Spec PyProof.Rows L2
def spCountG (K : PySem.W.Frag) (g : List Pr → Int) : Sp := fun vs H Q _ => ∃ (x : V) (d : PyData), vs = [x] ∧ Dp K H x d ∧ tlen d ≤ 1000 ∧ isT d = true ∧ ∀ H', Same H H' → Q (.int (g (unl (prsOf d)))) H'
def spSwap (K : PySem.W.Frag) : Sp := fun vs H Q _ => ∃ (a : Addr) (p : Pr) (r : List Pr), vs = [.ref a] ∧ H a = some (.dK (dkv (p :: r))) ∧ GoodL (p :: r) ∧ (p :: r).length ≤ 1000 ∧
  ∀ t H', H' a = some (.dK (dkv (turned p.1 p.2 r))) → Same (del H a) (del H' a) → SqT K (del H' a) t [.str "swap", .int p.1, .int p.2] → Q (.ref t) H'
theorem dkv_app (A B : List Pr) : dkv (A ++ B) = dkv A ++ dkv B := List.map_append ..
theorem dkv_len (A : List Pr) : (dkv A).length = A.length := List.length_map ..
theorem valV_mid {A B : List Pr} {q : Pr} (h : q.1 ∉ tos A) : valV (dkv (A ++ q :: B)) (Sum.inl q.1) = some (V.int q.2) := by
  induction A with
  | nil => exact valV_pos (show (Sum.inl q.1 : Key) = Sum.inl q.1 from rfl)
  | cons p A ih =>
    have hp : p.1 ≠ q.1 := fun e => h (by rw [← e]; exact List.mem_cons_self)
    show valV ((Sum.inl p.1, V.int p.2) :: dkv (A ++ q :: B)) (Sum.inl q.1) = _
    rw [valV_neg (fun e => hp (Sum.inl.inj e))]
    exact ih fun m => h (List.mem_cons_of_mem _ m)
theorem dkv_no_map {L : List Pr} {t : Int} {v : V} (h : t ∉ tos L) : (dkv L).map (fun kv => if kv.1 = Sum.inl t then (kv.1, v) else kv) = dkv L := by
  induction L with
  | nil => rfl
  | cons p L ih =>
    have hp : p.1 ≠ t := fun e => h (by rw [← e]; exact List.mem_cons_self)
    show (if (Sum.inl p.1 : Key) = Sum.inl t then ((Sum.inl p.1 : Key), v) else (Sum.inl p.1, V.int p.2)) :: (dkv L).map _ = _
    rw [if_neg (fun e => hp (Sum.inl.inj e)), ih fun m => h (List.mem_cons_of_mem _ m)]
    rfl
theorem putK_mid {A B : List Pr} {q : Pr} (o : Int) (hA : q.1 ∉ tos A) (hB : q.1 ∉ tos B) : putK (dkv (A ++ q :: B)) (Sum.inl q.1) (V.int o) = dkv (A ++ (q.1, o) :: B) := by
  unfold putK
  rw [valV_any, valV_mid hA, if_pos (show (some (V.int q.2)).isSome = true from rfl), dkv_app, dkv_app, List.map_append, dkv_no_map hA]
  congr 1
  show (if (Sum.inl q.1 : Key) = Sum.inl q.1 then ((Sum.inl q.1 : Key), V.int o) else _) :: (dkv B).map _ = _
  rw [if_pos rfl, dkv_no_map hB]
  rfl
theorem keys_tos (L : List Pr) {t : Int} (h : t ∉ tos L) : ¬ (Sum.inl t : Key) ∈ (dkv L).map (·.1) := fun m => by
  obtain ⟨q, hq, e⟩ := List.mem_map.mp m
  obtain ⟨p, hp, rfl⟩ := List.mem_map.mp hq
  exact h (List.mem_map.mpr ⟨p, hp, Sum.inl.inj e⟩)
theorem dropK_mid {A B : List Pr} {q : Pr} (hA : q.1 ∉ tos A) (hB : q.1 ∉ tos B) : dropK (dkv (A ++ q :: B)) (Sum.inl q.1) = dkv (A ++ B) := by
  have e1 : dropK (dkv A) (Sum.inl q.1) = dkv A := dropK_no (keys_tos A hA)
  have e2 : dropK (dkv B) (Sum.inl q.1) = dkv B := dropK_no (keys_tos B hB)
  have e3 : dropK (dkv (A ++ q :: B)) (Sum.inl q.1) = dropK (dkv A) (Sum.inl q.1) ++ dropK (dkv (q :: B)) (Sum.inl q.1) := by
    rw [dkv_app]; exact List.filter_append ..
  have e4 : dropK (dkv (q :: B)) (Sum.inl q.1) = dkv B := by
    show dropK ((Sum.inl q.1, V.int q.2) :: dkv B) (Sum.inl q.1) = _
    rw [dropK_pos rfl, e2]
  rw [e3, e1, e4, dkv_app]
theorem turned_snoc (t o : Int) (A : List Pr) (q : Pr) : turned t o (A ++ [q]) = turned t o A ++ (if q.2 = t then (if q.1 = o then [] else [(q.1, o)]) else if q.1 = q.2 then [] else [q]) := by
  unfold turned
  rw [List.map_append, List.filter_append]
  congr 1
  show List.filter _ [if q.2 = t then (q.1, o) else q] = _
  by_cases c : q.2 = t
  · rw [if_pos c, if_pos c]
    by_cases c2 : q.1 = o
    · rw [if_pos c2]; simp [List.filter, c2]
    · rw [if_neg c2]; simp [List.filter, c2]
  · rw [if_neg c, if_neg c]
    by_cases c2 : q.1 = q.2
    · rw [if_pos c2]; simp [List.filter, c2]
    · rw [if_neg c2]; simp [List.filter, c2]
section
variable {P : Program} {w : World} {K : PySem.W.Frag} {mg : Str → Option Value} {base : Heap}
theorem ok_unlike_pairsG (T : Txt K mg) : FnOk P w K mg base CX0 6 T.f_unlike_pairs T.d_unlike_pairs ["pairs"] (spCountG K fun L => L.length) := by
  have nd := sc_unlike_pairs.nd
  refine T.F_unlike_pairs.ok sc_unlike_pairs (fun vs H Q E h => ?_) (fun cdv A outer s H vs Q E hr h => ?_)
  · obtain ⟨x, d, rfl, _⟩ := h
    rfl
  obtain ⟨x, d, rfl, hd, ht, hT, k⟩ := h
  have G__unlike : FnOk P w K mg base CX0 5 _ _ _ (spUnlG K) := ok_unlikeG T
  have hr__unlike := hr
  refine ⟨_, (pss_one (ps_ret (pe_callB call_lenD (by rfl) T.z_len PySem.boot_len (pa_cons (pe_call G__unlike hr__unlike rfl T.m__unlike T.k__unlike T.b__unlike .nil pass0 (pa_cons (pv 0) pa_nil)) pa_nil)))), ?_⟩
  refine ⟨_, rfl, x, d, rfl, hd, ht, hT, fun p H1 e1 hp h1 => ⟨p, _, rfl, h1, ?_⟩⟩
  rw [dkv_len]
  exact k H1 e1
theorem ok_unlike_pairsB (T : Txt K mg) : FnOk P w K mg base (L2N.CX P w) 6 T.f_unlike_pairs T.d_unlike_pairs ["pairs"] (spUnlB T.C_NotUsable K) := by
  have nd := sc_unlike_pairs.nd
  refine okXN T.F_unlike_pairs sc_unlike_pairs (fun vs H Q E h => ?_) (fun cdv A outer s H vs Q E hr h => ?_)
  · obtain ⟨x, d, rfl, _⟩ := h
    rfl
  obtain ⟨x, d, rfl, hd, ht, hT, k⟩ := h
  have G__unlike : FnOk P w K mg base (L2N.CX P w) 5 _ _ _ (spUnlB T.C_NotUsable K) := ok_unlikeB T
  have hr__unlike := hr
  refine ⟨_, (pss_one (ps_ret (pe_callB call_lenD (by rfl) T.z_len PySem.boot_len (pa_cons (pe_call G__unlike hr__unlike rfl T.m__unlike T.k__unlike T.b__unlike .nil (L2N.passes_call (L2N.takes_of rfl rfl rfl rfl) (fun _ _ _ _ h => h)) (pa_cons (pv 0) pa_nil)) pa_nil)))), ?_⟩
  exact ⟨_, rfl, x, d, rfl, hd, ht, hT, k⟩
theorem ok_swapped (T : Txt K mg) : FnOk P w K mg base CX0 1 T.f__swapped T.d__swapped ["pending"] (spSwap K) := by
  have nd := sc__swapped.nd
  refine T.F__swapped.ok sc__swapped (fun vs H Q E h => ?_) (fun cdv A outer s H vs Q E hr h => ?_)
  · obtain ⟨a, p, r, rfl, _⟩ := h
    rfl
  obtain ⟨a, p, r, rfl, ha, g, hz, k⟩ := h
  refine ⟨_, (pss_cons (ps_set (i := 1) nd rfl (Or.inl rfl) (pe_callB (L2.cr_minK (by rfl)) (by rfl) T.z_min (by decide +kernel) (pa_cons (pv 0) pa_nil)))
      (pss_cons (ps_set (i := 2) nd rfl (Or.inl rfl) (pe_dpop1 (pv 0) (pv 1) ⟨rfl, rfl, rfl, rfl⟩))
      (pss_cons (ps_for PassesOwn.never rfl (pi_list (pe_callTy (call_list_dK (by rfl)) (by rfl) T.z_list (by decide +kernel) (pa_cons (pv 0) pa_nil))) (pg_name (i := 3) nd rfl (Or.inl rfl))
      (pss_one (ps_if (pt_cmpR op_eq (pe_dget (hu1 hr) (pv 0) (pv 3) (fun _ _ => rfl)) (pv 1) (nomark _)) (pss_cons (ps_dput (hu1 hr) (pv 0) (pv 3) (pv 2) rfl)
      (pss_one (ps_if (pt_cmpR op_eq (pv 3) (pv 2) (nomark _)) (pss_one (ps_expr (pe_dpop1 (pv 0) (pv 3) ⟨rfl, rfl, rfl, rfl⟩))) pss_nil))) pss_nil)))
      (pss_one (ps_ret (pe_tup (pa_cons pe_str (pa_cons (pv 1) (pa_cons (pv 2) pa_nil))))))))), ?_⟩
  have hp : p.1 ∉ tos r := (List.nodup_cons.mp g.nodup).1
  refine ⟨_, rfl, a, _, tos (p :: r), rfl, ha, ?_, (fun z => nomatch z), fun m hm1 hm2 => ?_⟩
  · unfold dkv tos
    rw [List.map_map, List.map_map]; rfl
  have em : m = p.1 := by
    have a1 := hm2 p.1 List.mem_cons_self
    rcases List.mem_cons.mp hm1 with e | m2
    · exact e
    · have := (List.pairwise_cons.mp (show (p.1 :: tos r).Pairwise (· < ·) from g.asc)).1 m m2
      omega
  subst em
  refine ⟨_, rfl, a, rfl, .inl ⟨_, .inl ha⟩, _, rfl, _, Sum.inl p.1, V.int p.2, ha, rfl, valV_mid (A := []) (fun z => nomatch z), ?_⟩
  have ed : dropK (dkv (p :: r)) (Sum.inl p.1) = dkv r := dropK_mid (A := []) (fun z => nomatch z) hp
  rw [ed]
  refine ⟨_, rfl, a, _, rfl, upd_same, fun lp hlp => ?_⟩
  have hla : lp ≠ a := fun e => by rw [e, upd_same] at hlp; cases hlp
  have hna : H lp = none := by rw [upd_ne hla] at hlp; exact hlp
  have eks : ((dkv r).map fun kv => kV kv.1) = iV (tos r) := by
    unfold dkv tos iV
    rw [List.map_map, List.map_map]; rfl
  rw [eks]
  refine ⟨lp, rfl, ⟨_, SqL.of upd_same⟩, ?_⟩
  refine for_list (K := K) (a := lp) (xs := iV (tos r)) (fun i σ H' => ∃ o3, σ = [some (.ref a), some (.int p.1), some (.int p.2), o3] ∧ Same (del H a) (del H' a) ∧ H' a = some (.dK (dkv (turned p.1 p.2 (r.take i) ++ r.drop i))) ∧ H' lp = some (.lst (iV (tos r)))) ?_ ?_ ?_ ?_
  · refine ⟨none, rfl, ?_, ?_, upd_same⟩
    · intro b u q
      by_cases hb : b = a
      · subst hb; rw [del_same] at q; cases q
      · rw [del_ne hb] at q ⊢
        rw [upd_ne (ne_of_none q hna), upd_ne hb]
        exact q
    · rw [upd_ne hla.symm]; exact upd_same
  · rintro i σ H' _ ⟨o3, _, _, _, h⟩
    exact SqL.of h
  · rintro i x σ H' hix ⟨o3, rfl, e, hd, hlp2⟩
    have hir : i < r.length := by have := (List.getElem?_eq_some_iff.mp hix).1; rw [iV_len] at this; simpa [tos] using this
    obtain ⟨q, hq⟩ : ∃ q, r[i]? = some q := ⟨r[i], List.getElem?_eq_getElem hir⟩
    have ex : x = .int q.1 := by
      have : (iV (tos r))[i]? = some (V.int q.1) := by
        unfold iV tos
        rw [List.getElem?_map, List.getElem?_map, hq]; rfl
      exact Option.some.inj (hix.symm.trans this)
    subst ex
    have edr : r.drop i = q :: r.drop (i + 1) := by rw [List.drop_eq_getElem_cons hir]; congr 1; exact Option.some.inj ((List.getElem?_eq_getElem hir).symm.trans hq)
    have nd2 : (tos (r.take i) ++ q.1 :: tos (r.drop (i + 1))).Nodup := by
      have h1 : (tos r).Nodup := g.cons.nodup
      have h2 : tos r = tos (r.take i) ++ q.1 :: tos (r.drop (i + 1)) := by
        have h3 : r = r.take i ++ q :: r.drop (i + 1) := by rw [← edr, List.take_append_drop]
        have h4 : tos r = tos (r.take i ++ q :: r.drop (i + 1)) := congrArg tos h3
        rw [h4]
        exact List.map_append ..
      rw [← h2]; exact h1
    have hA0 : q.1 ∉ tos (r.take i) := fun m => (List.nodup_append.mp nd2).2.2 q.1 m q.1 List.mem_cons_self rfl
    have hB : q.1 ∉ tos (r.drop (i + 1)) := (List.nodup_cons.mp (List.nodup_append.mp nd2).2.1).1
    have hA : q.1 ∉ tos (turned p.1 p.2 (r.take i)) := fun m => hA0 ((tos_turned _ _ _).subset m)
    have hne : q.1 ≠ q.2 := g.ne q (List.mem_cons_of_mem _ (List.mem_of_getElem? hq))
    rw [edr] at hd
    have dg : DGet H' a (V.int q.1) (some (V.int q.2)) := by
      have := DGet.k (k := Sum.inl q.1) hd
      rw [valV_mid hA] at this
      exact this
    have ets : turned p.1 p.2 (r.take (i + 1)) = turned p.1 p.2 (r.take i) ++ (if q.2 = p.1 then (if q.1 = p.2 then [] else [(q.1, p.2)]) else if q.1 = q.2 then [] else [q]) := by
      rw [List.take_succ, hq]
      exact turned_snoc ..
    refine ⟨_, rfl, _, rfl, a, V.int q.2, rfl, dg, ?_⟩
    refine ⟨_, rfl, rfl, _, rfl, ?_⟩
    by_cases c : q.2 = p.1
    · refine ifT (decide_eq_true (congrArg V.int c)) ?_
      rw [if_pos c] at ets
      have hlen : (dkv (turned p.1 p.2 (r.take i) ++ q :: r.drop (i + 1))).length < sizeLine := by
        refine szl ?_
        rw [dkv_len, List.length_append, List.length_cons, List.length_drop]
        have h1 : (turned p.1 p.2 (r.take i)).length ≤ (r.take i).length := by
          refine Nat.le_trans (List.length_filter_le _ _) ?_
          rw [List.length_map]; exact Nat.le_refl _
        rw [List.length_take] at h1
        have : r.length + 1 ≤ 1000 := hz
        omega
      refine ⟨_, rfl, _, rfl, _, rfl, a, _, rfl, DPut.k (k := Sum.inl q.1) hd hlen, ?_⟩
      rw [putK_mid p.2 hA hB]
      refine ⟨_, rfl, _, rfl, rfl, _, rfl, ?_⟩
      by_cases c2 : q.1 = p.2
      · refine ifT (decide_eq_true (congrArg V.int c2)) ?_
        rw [if_pos c2, List.append_nil] at ets
        refine ⟨_, rfl, a, rfl, .inl ⟨_, .inl upd_same⟩, _, rfl, _, Sum.inl q.1, V.int p.2, upd_same, rfl, valV_mid (q := (q.1, p.2)) hA, ?_⟩
        have ed2 : dropK (dkv (turned p.1 p.2 (r.take i) ++ (q.1, p.2) :: r.drop (i + 1))) (Sum.inl q.1) = dkv (turned p.1 p.2 (r.take i) ++ r.drop (i + 1)) := dropK_mid (q := (q.1, p.2)) hA hB
        rw [ed2, ets]
        refine ⟨_, rfl, ?_, upd_same, ?_⟩
        · rw [del_upd, del_upd]; exact e
        · rw [upd_ne hla, upd_ne hla]; exact hlp2
      · refine ifF (decide_eq_false fun z => c2 (V.int.inj z)) ?_
        rw [if_neg c2] at ets
        rw [ets]
        refine ⟨_, rfl, ?_, ?_, ?_⟩
        · rw [del_upd]; exact e
        · rw [List.append_assoc]; exact upd_same
        · rw [upd_ne hla]; exact hlp2
    · refine ifF (decide_eq_false fun z => c (V.int.inj z)) ?_
      rw [if_neg c, if_neg hne] at ets
      rw [ets]
      refine ⟨_, rfl, e, ?_, hlp2⟩
      rw [List.append_assoc]
      exact hd
  · rintro σ H' ⟨o3, rfl, e, hd, hlp2⟩
    have hlr : (iV (tos r)).length = r.length := by rw [iV_len]; exact List.length_map ..
    rw [hlr, List.take_length, List.drop_length, List.append_nil] at hd
    refine ⟨_, rfl, _, rfl, ?_⟩
    refine ⟨(by show 3 ≤ sizeLine; decide), fun t ht => ?_⟩
    have hta : t ≠ a := fun z => by rw [z, hd] at ht; cases ht
    refine k t _ ?_ ?_ ?_
    · rw [upd_ne hta.symm]; exact hd
    · intro b u q
      have q2 := e b u q
      by_cases hb : b = a
      · subst hb; rw [del_same] at q2; cases q2
      · rw [del_ne hb] at q2 ⊢
        rw [upd_ne (ne_of_none q2 ht)]
        exact q2
    · refine SqT.of ?_
      rw [del_ne hta]; exact upd_same
end
end Lk

set_option Elab.async false
set_option linter.all false
set_option maxRecDepth 100000
set_option maxHeartbeats 4000000
namespace Lk
open PySem PySem.Spec PyProof.Rows L2
abbrev hx (a rl : Addr) (H : Hp) : Hp := del (del H a) rl
theorem hx_new {a rl p : Addr} {H : Hp} {o : HO} (h : H p = none) : Same (hx a rl H) (hx a rl (upd H p o)) := same_del rl (same_del a (same_new h o))
theorem hx_a {a rl : Addr} {H : Hp} {o : HO} : hx a rl (upd H a o) = hx a rl H := by unfold hx; rw [del_upd]
theorem hx_rl {a rl : Addr} {H : Hp} {o : HO} : hx a rl (upd H rl o) = hx a rl H := by
  funext b
  by_cases h1 : b = rl
  · rw [h1]; show del _ rl rl = del _ rl rl; rw [del_same, del_same]
  · show del _ rl b = del _ rl b
    rw [del_ne h1, del_ne h1]
    by_cases h2 : b = a
    · rw [h2, del_same, del_same]
    · rw [del_ne h2, del_ne h2, upd_ne h1]
theorem hx_call {a rl : Addr} {H H' : Hp} (e : Same (del H a) (del H' a)) : Same (hx a rl H) (hx a rl H') := same_del rl e
theorem isEmpty_dkv {p : Pr} {r : List Pr} : (!(dkv (p :: r)).isEmpty) = true := rfl
theorem inV_ints {t : Int} {F : List Int} : inV (.int t) (iV F) = decide (t ∈ F) := by
  induction F with
  | nil => rfl
  | cons x F ih =>
    show (eqV (.int x) (.int t) || inV (.int t) (iV F)) = _
    rw [ih]
    have e : eqV (.int x) (.int t) = decide (x = t) := by show (x == t) = _; rw [Bool.beq_eq_decide_eq]
    rw [e]
    by_cases c : x = t
    · simp [c]
    · have c' : t ≠ x := fun z => c z.symm
      simp [c, c']
theorem all_flat (F : List Int) : (iV F).all flatV = true := List.all_eq_true.mpr fun v m => by
  obtain ⟨i, _, rfl⟩ := List.mem_map.mp m
  rfl
def fr (F : List Int) (A : List Pr) : List Pr := A.filter fun p => decide (p.1 ∉ F)
theorem fr_snoc (F : List Int) (A : List Pr) (q : Pr) : fr F (A ++ [q]) = fr F A ++ (if q.1 ∈ F then [] else [q]) := by
  unfold fr
  rw [List.filter_append]
  congr 1
  by_cases c : q.1 ∈ F
  · rw [if_pos c]; simp [List.filter, c]
  · rw [if_neg c]; simp [List.filter, c]
theorem dkv_get {L : List Pr} {i : Nat} {k : Key} {v : V} (h : (dkv L)[i]? = some (k, v)) : ∃ q, L[i]? = some q ∧ k = Sum.inl q.1 ∧ v = .int q.2 := by
  unfold dkv at h
  rw [List.getElem?_map] at h
  obtain ⟨q, hq, e⟩ := Option.map_eq_some_iff.mp h
  cases e
  exact ⟨q, hq, rfl, rfl⟩
theorem unlock_eq {H : Hp} {a D : Addr} {u f x : HO} (h : H a = some u) (hd : D ≠ a) : upd (upd (upd H a f) D x) a u = upd H D x := by
  funext b
  by_cases hb : b = a
  · subst hb; rw [upd_same, upd_ne hd.symm, h]
  · rw [upd_ne hb]
    by_cases hc : b = D
    · subst hc; rw [upd_same, upd_same]
    · rw [upd_ne hc, upd_ne hc, upd_ne hb]
theorem dropK_wo (t : Int) : ∀ L : List Pr, dropK (dkv L) (Sum.inl t) = dkv (without t L)
  | [] => rfl
  | p :: r => by
    by_cases c : p.1 = t
    · have e : without t (p :: r) = without t r := List.filter_cons_of_neg (by simp [c])
      rw [e]
      show dropK ((Sum.inl p.1, V.int p.2) :: dkv r) (Sum.inl t) = _
      rw [dropK_pos (congrArg Sum.inl c), dropK_wo t r]
    · have e : without t (p :: r) = p :: without t r := List.filter_cons_of_pos (by simp [c])
      rw [e]
      show dropK ((Sum.inl p.1, V.int p.2) :: dkv r) (Sum.inl t) = _
      rw [dropK_neg (fun z => c (Sum.inl.inj z)), dropK_wo t r]
      rfl
theorem valV_in_L {L : List Pr} {q : Pr} (hn : (tos L).Nodup) (m : q ∈ L) : valV (dkv L) (Sum.inl q.1) = some (V.int q.2) := by
  obtain ⟨A, B, rfl⟩ := List.append_of_mem m
  refine valV_mid fun z => ?_
  have e : tos (A ++ q :: B) = tos A ++ q.1 :: tos B := List.map_append ..
  rw [e] at hn
  exact (List.nodup_append.mp hn).2.2 q.1 z q.1 List.mem_cons_self rfl
theorem same_thru {H G H5 : Hp} {a : Addr} (e : Same H G) (ha : H a = none) (e5 : Same (del G a) (del H5 a)) : Same H H5 := fun b u q =>
  Same.off (l := a) e5 (ne_of_none q ha) (e b u q)
theorem dp_row {K : PySem.W.Frag} {H : Hp} {t : Addr} (b : Bool) (i j : Int) (h : H t = some (.tup [.str (vb b), .int i, .int j])) : Dp K H (.ref t) (rwD (b, i, j)) :=
  .tup (SqT.of h) (.cons (.str _) (.cons (.int _) (.cons (.int _) .nil)))
def spRowsG (K : PySem.W.Frag) : Sp := fun vs H Q _ => ∃ (x : V) (d : PyData), vs = [x] ∧ Dp K H x d ∧ tlen d ≤ 1000 ∧ isT d = true ∧ ∀ z H', Same H H' → Dp K H' z (rwsD (rowsN 1000 (unl (prsOf d)))) → Q z H'
section
variable {P : Program} {w : World} {K : PySem.W.Frag} {mg : Str → Option Value} {base : Heap}
theorem ok_rowsB (T : Txt K mg) : FnOk P w K mg base (L2N.CX P w) 6 T.f_transfer_rows T.d_transfer_rows ["pairs"] (spUnlB T.C_NotUsable K) := by
  have nd := sc_transfer_rows.nd
  refine okXN T.F_transfer_rows sc_transfer_rows (fun vs H Q E h => ?_) (fun cdv A outer s H vs Q E hr h => ?_)
  · obtain ⟨x, d, rfl, _⟩ := h
    rfl
  obtain ⟨x, d, rfl, hd, ht, hT, k⟩ := h
  have G__unlike : FnOk P w K mg base (L2N.CX P w) 5 _ _ _ (spUnlB T.C_NotUsable K) := ok_unlikeB T
  have hr__unlike := hr
  refine ⟨_, (pss_cons (ps_set (i := 1) nd rfl (Or.inl rfl) (pe_call G__unlike hr__unlike rfl T.m__unlike T.k__unlike T.b__unlike .nil (L2N.passes_call (L2N.takes_of rfl rfl rfl rfl) (fun _ _ _ _ h => h)) (pa_cons (pv 0) pa_nil)))
      (pss_cons ps_never (pss_cons ps_never (pss_one ps_never)))), ?_⟩
  exact ⟨_, rfl, x, d, rfl, hd, ht, hT, k⟩
theorem ok_rowsG (T : Txt K mg) : FnOk P w K mg base CX0 6 T.f_transfer_rows T.d_transfer_rows ["pairs"] (spRowsG K) := by
  have nd := sc_transfer_rows.nd
  refine T.F_transfer_rows.ok sc_transfer_rows (fun vs H Q E h => ?_) (fun cdv A outer s H vs Q E hr h => ?_)
  · obtain ⟨x, d, rfl, _⟩ := h
    rfl
  obtain ⟨x, d, rfl, hd, ht, hT, k⟩ := h
  have G__unlike : FnOk P w K mg base CX0 5 _ _ _ (spUnlG K) := ok_unlikeG T
  have hr__unlike := hr
  have G__swapped : FnOk P w K mg base CX0 1 _ _ _ (spSwap K) := ok_swapped T
  have hr__swapped : Room 1 _ := hr.mono (by omega)
  refine ⟨_, (pss_cons (ps_set (i := 1) nd rfl (Or.inl rfl) (pe_call G__unlike hr__unlike rfl T.m__unlike T.k__unlike T.b__unlike .nil pass0 (pa_cons (pv 0) pa_nil)))
      (pss_cons (ps_set (i := 2) nd rfl (Or.inl rfl) (pe_lst pa_nil))
      (pss_cons (ps_while PassesOwn.never (pt_truth (pv 1) (by intro _; rfl)) (pss_cons (ps_set (i := 3) nd rfl (Or.inr rfl) (pe_listVals (by rfl) (by rfl) T.z_list (pv 1)))
      (pss_cons (ps_lock (ps_setLc (i := 4) (own := [("to", 5)]) (g := gName 5) (by rfl) nd rfl rfl (sw_true rfl rfl rfl (by decide +kernel)) (pi_keys (pv 1)) (blkOk_by (own := [("to", 5)]) (N := sl_transfer_rows) (sc := defScope s_transfer_rows) (by decide +kernel)) (fun _ _ _ _ _ => pg_name (i := 5) nd rfl (Or.inl rfl)) (fun _ _ _ _ _ => (pts_one (pt_cmpR (op_notInK (K := K) rfl) (pv 5) (pv 3) (by rfl)))) (fun _ _ _ _ _ => (pv 5))))
      (pss_one (ps_if (pt_truth (pv 4) (by intro _; rfl)) (pss_cons (ps_set (i := 5) nd rfl (Or.inl rfl) (pe_callB (cr_min rfl) (by rfl) T.z_min (by decide +kernel) (pa_cons (pv 4) pa_nil)))
      (pss_one (ps_expr (pe_bm PySem.F.plainAttrs_list PySem.F.slot_list_append PySem.F.type_list_append mt_append (pv 2) (pa_cons (pe_tup (pa_cons pe_str (pa_cons (pv 5) (pa_cons (pe_dpop1 (pv 1) (pv 5) ⟨rfl, rfl, rfl, rfl⟩) pa_nil)))) pa_nil))))) (pss_one (ps_expr (pe_bm PySem.F.plainAttrs_list PySem.F.slot_list_append PySem.F.type_list_append mt_append (pv 2) (pa_cons (pe_call G__swapped hr__swapped rfl T.m__swapped T.k__swapped T.b__swapped .nil pass0 (pa_cons (pv 1) pa_nil)) pa_nil)))))))))
      (pss_one (ps_ret (pe_callTy call_tuple_of (by rfl) T.z_tuple (by decide +kernel) (pa_cons (pv 2) pa_nil))))))), ?_⟩
  refine ⟨_, rfl, x, d, rfl, hd, ht, hT, fun a H1 e1 ha h1 => ?_⟩
  refine ⟨(by show 0 ≤ sizeLine; decide), fun rl hrl => ?_⟩
  have hg := unl_good hT
  have hra : rl ≠ a := fun z => by rw [z, h1] at hrl; cases hrl
  have hnr : H rl = none := none_of e1 hrl
  have hnA : H a = none := ha
  have hL0 : (unl (prsOf d)).length ≤ 1000 := by
    refine Nat.le_trans (List.length_filter_le _ _) ?_
    match d, ht with
    | .tuple ds, ht => show (List.map _ ds).length ≤ 1000; rw [List.length_map]; exact ht
    | .none, _ => exact Nat.zero_le _
    | .bool _, _ => exact Nat.zero_le _
    | .int _, _ => exact Nat.zero_le _
    | .str _, _ => exact Nat.zero_le _
    | .list _, _ => exact Nat.zero_le _
    | .dict _, _ => exact Nat.zero_le _
  refine ⟨fun m σ H' => ∃ (L : List Pr) (done : List Rw) (n : Nat) (vs : List V) (o3 o4 o5 : Option V), σ = [some x, some (.ref a), some (.ref rl), o3, o4, o5] ∧ m = L.length ∧ Same H H' ∧ H' a = some (.dK (dkv L)) ∧ GoodL L ∧ L.length ≤ n ∧
    H' rl = some (.lst vs) ∧ DpAll K (hx a rl H') vs (done.map rwD) ∧ done ++ rowsN n L = rowsN 1000 (unl (prsOf d)) ∧ done.length + L.length ≤ 1000, ⟨_, unl (prsOf d), [], 1000, [], none, none, none, rfl, rfl, ?_, ?_, hg, hL0, upd_same, .nil, rfl, by simpa using hL0⟩, ?_⟩
  · exact e1.trans (same_new hrl _)
  · rw [upd_ne hra.symm]; exact h1
  rintro m σ H' ⟨L, done, n, vs, o3, o4, o5, rfl, rfl, e, hda, gL, hn, hrl2, hdv, hdone, hdl⟩
  refine ⟨_, rfl, (!(dkv L).isEmpty), .inr (.inr ⟨_, hda, rfl⟩), ?_⟩
  have hvl : vs.length = done.length := by rw [dp_len hdv, List.length_map]
  cases L with
  | nil =>
    refine iteF ?_
    have er : rowsN n [] = [] := by cases n <;> rfl
    rw [er, List.append_nil] at hdone
    refine ⟨_, rfl, rl, _, rfl, .inl ⟨SqL.of hrl2, fun t ht2 => ?_⟩⟩
    refine k _ _ (e.trans (same_new ht2 _)) ?_
    refine .tup (SqT.of upd_same) ?_
    rw [← hdone]
    refine dpAll_same ?_ hdv
    exact ((del_le (del H' a) rl).trans (del_le H' a)).trans (same_new ht2 _)
  | cons p r =>
    refine iteT ?_
    refine ⟨fun σ' H'' => ∃ m', m' < (p :: r).length ∧ (∃ (L : List Pr) (done : List Rw) (n : Nat) (vs : List V) (o3 o4 o5 : Option V), σ' = [some x, some (.ref a), some (.ref rl), o3, o4, o5] ∧ m' = L.length ∧ Same H H'' ∧ H'' a = some (.dK (dkv L)) ∧ GoodL L ∧ L.length ≤ n ∧
      H'' rl = some (.lst vs) ∧ DpAll K (hx a rl H'') vs (done.map rwD) ∧ done ++ rowsN n L = rowsN 1000 (unl (prsOf d)) ∧ done.length + L.length ≤ 1000), fun _ _ z => z, ?_⟩
    refine ⟨_, rfl, a, _, rfl, hda, fun fp hfp => ?_⟩
    have hfa : fp ≠ a := fun z => by rw [z, hda] at hfp; cases hfp
    have hfr : fp ≠ rl := fun z => by rw [z, hrl2] at hfp; cases hfp
    have efr : ((dkv (p :: r)).map (·.2)) = iV (froms (p :: r)) := by
      unfold dkv froms iV
      rw [List.map_map, List.map_map]; rfl
    rw [efr]
    refine ⟨a, .dK (dkv (p :: r)), (by rw [upd_ne hfa.symm]; exact hda), True.intro, fun od => ?_⟩
    refine ⟨_, rfl, a, od, rfl, .inl ⟨_, upd_same, fun D hD => ?_⟩⟩
    have hDa : D ≠ a := fun z => by rw [z, upd_same] at hD; cases hD
    have hDf : D ≠ fp := fun z => by rw [z, upd_ne hfa, upd_same] at hD; cases hD
    have hDr : D ≠ rl := fun z => by rw [z, upd_ne hra, upd_ne hfr.symm, hrl2] at hD; cases hD
    have hDn : (upd H' fp (.lst (iV (froms (p :: r))))) D = none := by rw [upd_ne hDa] at hD; exact hD
    have hrc : r.length + 1 ≤ 1000 := by simp at hdl; omega
    refine lc_it walk_keys (fun i H4 => H4 = upd (upd (upd H' fp (.lst (iV (froms (p :: r))))) a (.frz od (.dK (dkv (p :: r))))) D (.lst (iV (tos (fr (froms (p :: r)) ((p :: r).take i)))))) rfl ?_ ?_ ?_
    · rintro i H4 _ rfl
      rw [upd_ne hDa.symm, upd_same]
    · rintro i z H4 H5 hi rfl ⟨rfl, kk, vv, hkv, rfl⟩
      obtain ⟨q, hq, rfl, rfl⟩ := dkv_get hkv
      have hi' : i < (p :: r).length := (List.getElem?_eq_some_iff.mp hq).1
      refine ⟨rfl, ?_⟩
      refine ⟨_, rfl, _, rfl, fp, iV (froms (p :: r)), rfl, .inl (SqL.of ?_), rfl, all_flat (froms (p :: r)), _, rfl, ?_⟩
      · rw [upd_ne hDf.symm, upd_ne hfa, upd_same]
      have es : fr (froms (p :: r)) ((p :: r).take (i + 1)) = _ := (congrArg (fr _) (by rw [List.take_succ, hq]; rfl)).trans (fr_snoc (froms (p :: r)) ((p :: r).take i) q)
      have ei : inV (kV (Sum.inl q.1)) (iV (froms (p :: r))) = decide (q.1 ∈ froms (p :: r)) := inV_ints
      rw [es]
      by_cases c : q.1 ∈ froms (p :: r)
      · refine ifF (by show (!inV (kV (Sum.inl q.1)) (iV (froms (p :: r)))) = false; rw [ei, decide_eq_true c]; rfl) ?_
        rw [if_pos c, List.append_nil]
      · refine ifT (by show (!inV (kV (Sum.inl q.1)) (iV (froms (p :: r)))) = true; rw [ei, decide_eq_false c]; rfl) ?_
        rw [if_neg c]
        refine ⟨_, rfl, _, upd_same, ?_, ?_⟩
        · rw [iV_len]
          refine szl ?_
          show (List.map _ _).length ≤ _
          rw [List.length_map]
          refine Nat.le_trans (List.length_filter_le _ _) ?_
          rw [List.length_take]
          omega
        · rw [upd_upd]
          have e9 : tos (fr (froms (p :: r)) ((p :: r).take i) ++ [q]) = tos (fr (froms (p :: r)) ((p :: r).take i)) ++ [q.1] := List.map_append ..
          rw [e9]
          have e8 : ∀ F : List Int, iV (F ++ [q.1]) = iV F ++ [kV (Sum.inl q.1)] := fun F => List.map_append ..
          rw [e8]
    · rintro H4 rfl
      rw [dkv_len, List.take_length]
      have hHa : (upd H' fp (.lst (iV (froms (p :: r))))) a = some (.dK (dkv (p :: r))) := by rw [upd_ne hfa.symm]; exact hda
      refine ⟨by rw [upd_ne hDa.symm, upd_same], ?_⟩
      rw [unlock_eq hHa hDa]
      have eH1 : Same H (upd (upd H' fp (.lst (iV (froms (p :: r))))) D (.lst (iV (tos (fr (froms (p :: r)) (p :: r)))))) := e.trans ((same_new hfp _).trans (same_new hDn _))
      have eX1 : Same (hx a rl H') (hx a rl (upd (upd H' fp (.lst (iV (froms (p :: r))))) D (.lst (iV (tos (fr (froms (p :: r)) (p :: r))))))) := (hx_new hfp).trans (hx_new hDn)
      have ha1 : (upd (upd H' fp (.lst (iV (froms (p :: r))))) D (.lst (iV (tos (fr (froms (p :: r)) (p :: r)))))) a = some (.dK (dkv (p :: r))) := by rw [upd_ne hDa.symm]; exact hHa
      have hr1 : (upd (upd H' fp (.lst (iV (froms (p :: r))))) D (.lst (iV (tos (fr (froms (p :: r)) (p :: r)))))) rl = some (.lst vs) := by rw [upd_ne hDr.symm, upd_ne hfr.symm]; exact hrl2
      have hD1 : (upd (upd H' fp (.lst (iV (froms (p :: r))))) D (.lst (iV (tos (fr (froms (p :: r)) (p :: r)))))) D = some (.lst (iV (tos (fr (froms (p :: r)) (p :: r))))) := upd_same
      generalize (upd (upd H' fp (.lst (iV (froms (p :: r))))) D (.lst (iV (tos (fr (froms (p :: r)) (p :: r)))))) = G at *
      obtain ⟨n', rfl⟩ : ∃ n', n = n' + 1 := ⟨n - 1, by simp at hn; omega⟩
      refine ⟨_, rfl, (!(iV (tos (fr (froms (p :: r)) (p :: r)))).isEmpty), .inl ⟨_, SqL.of hD1, rfl⟩, ?_⟩
      have efr2 : fr (froms (p :: r)) (p :: r) = freeOf (p :: r) := rfl
      rw [efr2] at hD1 ⊢
      cases ef : freeOf (p :: r) with
      | nil =>
        refine iteF ?_
        have hs : stepR (p :: r) = some ((false, p.1, p.2), turned p.1 p.2 r) := by unfold stepR; rw [ef]
        obtain ⟨g2, l2⟩ := step_less gL hs
        have er : rowsN (n' + 1) (p :: r) = (false, p.1, p.2) :: rowsN n' (turned p.1 p.2 r) := by rw [rowsN, hs]
        refine ⟨_, rfl, .inl ⟨rfl, _, SqL.of hr1⟩, _, rfl, a, p, r, rfl, ha1, gL, hrc, fun t H5 h5 e5 t5 => ?_⟩
        have hr5 : H5 rl = some (.lst vs) := Same.off (l := a) e5 hra hr1
        refine ⟨rl, _, _, rfl, rfl, hr5, szl (by rw [hvl]; omega), ?_⟩
        refine ⟨_, l2, turned p.1 p.2 r, done ++ [(false, p.1, p.2)], n', vs ++ [.ref t], _, _, _, rfl, rfl, same_mut (same_thru eH1 hnA e5) hnr, ?_, g2, by simp at hn l2; omega, upd_same, ?_, ?_, ?_⟩
        · rw [upd_ne hra.symm]; exact h5
        · rw [hx_rl, List.map_append]
          refine dpAll_app (dpAll_same (eX1.trans (hx_call e5)) hdv) (.tup (seqT_off t5 (by rw [del_ne hra]; exact hr5)) (.cons (.str _) (.cons (.int _) (.cons (.int _) .nil))))
        · rw [← hdone, er, List.append_assoc]; rfl
        · rw [List.length_append]; simp at l2 hdl ⊢; omega
      | cons q r2 =>
        refine iteT ?_
        have hs : stepR (p :: r) = some ((true, q.1, q.2), without q.1 (p :: r)) := by unfold stepR; rw [ef]
        obtain ⟨g2, l2⟩ := step_less gL hs
        have er : rowsN (n' + 1) (p :: r) = (true, q.1, q.2) :: rowsN n' (without q.1 (p :: r)) := by rw [rowsN, hs]
        rw [ef] at hD1
        obtain ⟨mq, nq⟩ := free_mem ef
        refine ⟨_, rfl, D, _, rfl, SqL.of hD1, Nat.succ_pos _, fun m hm1 hm2 => ?_⟩
        have em : m = q.1 := by
          have pw : (tos (q :: r2)).Pairwise (· < ·) := by
            rw [← ef]; exact gL.asc.sublist ((List.filter_sublist ..).map _)
          have a1 := hm2 q.1 List.mem_cons_self
          rcases List.mem_cons.mp hm1 with e | m2
          · exact e
          · have := (List.pairwise_cons.mp (show (q.1 :: tos r2).Pairwise (· < ·) from pw)).1 m m2
            omega
        subst em
        refine ⟨_, rfl, .inl ⟨rfl, _, SqL.of hr1⟩, _, rfl, _, rfl, a, rfl, .inl ⟨_, .inl ha1⟩, _, rfl, _, Sum.inl q.1, V.int q.2, ha1, rfl, valV_in_L gL.nodup mq, ?_⟩
        rw [dropK_wo]
        refine ⟨(by show 3 ≤ sizeLine; decide), fun t ht => ?_⟩
        have hta : t ≠ a := fun z => by rw [z, upd_same] at ht; cases ht
        have htr : t ≠ rl := fun z => by rw [z, upd_ne hra, hr1] at ht; cases ht
        refine ⟨rl, _, _, rfl, rfl, (by rw [upd_ne htr.symm, upd_ne hra]; exact hr1), szl (by rw [hvl]; omega), ?_⟩
        refine ⟨_, l2, without q.1 (p :: r), done ++ [(true, q.1, q.2)], n', vs ++ [.ref t], _, _, _, rfl, rfl, same_mut ((same_mut eH1 hnA).trans (same_new ht _)) hnr, ?_, g2, by simp at hn l2; omega, upd_same, ?_, ?_, ?_⟩
        · rw [upd_ne hra.symm, upd_ne hta.symm, upd_same]
        · rw [hx_rl, List.map_append]
          have eX2 : Same (hx a rl G) (hx a rl (upd (upd G a (.dK (dkv (without q.1 (p :: r))))) t (.tup [.str "move", .int q.1, .int q.2]))) := by
            have := hx_new (a := a) (rl := rl) (o := .tup [.str "move", .int q.1, .int q.2]) ht
            rw [hx_a] at this
            exact this
          refine dpAll_app (dpAll_same (eX1.trans eX2) hdv) (dp_row true q.1 q.2 ?_)
          show del _ rl t = _
          rw [del_ne htr, del_ne hta]; exact upd_same
        · rw [← hdone, er, List.append_assoc]; rfl
        · rw [List.length_append]; simp at l2 hdl ⊢; omega
end
end Lk

set_option Elab.async false
set_option linter.all false
set_option maxRecDepth 100000
set_option maxHeartbeats 4000000
namespace Lk
open PySem PySem.Spec PyProof.Rows L2
section
variable {P : Program} {w : World} {K : PySem.W.Frag} {mg : Str → Option Value} {base : Heap}
theorem ok_ringsB (T : Txt K mg) : FnOk P w K mg base (L2N.CX P w) 6 T.f_closed_rings T.d_closed_rings ["pairs"] (spUnlB T.C_NotUsable K) := by
  have nd := sc_closed_rings.nd
  refine okXN T.F_closed_rings sc_closed_rings (fun vs H Q E h => ?_) (fun cdv A outer s H vs Q E hr h => ?_)
  · obtain ⟨x, d, rfl, _⟩ := h
    rfl
  obtain ⟨x, d, rfl, hd, ht, hT, k⟩ := h
  have G__unlike : FnOk P w K mg base (L2N.CX P w) 5 _ _ _ (spUnlB T.C_NotUsable K) := ok_unlikeB T
  have hr__unlike := hr
  refine ⟨_, (pss_cons (ps_set (i := 1) nd rfl (Or.inl rfl) (pe_call G__unlike hr__unlike rfl T.m__unlike T.k__unlike T.b__unlike .nil (L2N.passes_call (L2N.takes_of rfl rfl rfl rfl) (fun _ _ _ _ h => h)) (pa_cons (pv 0) pa_nil)))
      (pss_cons ps_never (pss_cons ps_never (pss_cons ps_never (pss_one ps_never))))), ?_⟩
  exact ⟨_, rfl, x, d, rfl, hd, ht, hT, k⟩
theorem valV_nxt (t : Int) : ∀ L : List Pr, valV (dkv L) (Sum.inl t) = (nxt L t).map V.int
  | [] => rfl
  | p :: r => by
    show valV ((Sum.inl p.1, V.int p.2) :: dkv r) (Sum.inl t) = _
    by_cases c : p.1 = t
    · rw [valV_pos (congrArg Sum.inl c), show nxt (p :: r) t = some p.2 from if_pos c]; rfl
    · rw [valV_neg (fun z => c (Sum.inl.inj z)), valV_nxt t r, show nxt (p :: r) t = nxt r t from if_neg c]
theorem valV_keys {t : Int} : ∀ {kvs : List (Key × V)} {M : List Int}, kvs.map (·.1) = M.map Sum.inl → (valV kvs (Sum.inl t)).isSome = decide (t ∈ M)
  | [], [], _ => rfl
  | [], _ :: _, h => by cases h
  | _ :: _, [], h => by cases h
  | kv :: kvs, m :: M, h => by
    have h1 : kv.1 = Sum.inl m := (List.cons.inj h).1
    have h2 := (List.cons.inj h).2
    by_cases c : m = t
    · rw [valV_pos (h1.trans (congrArg Sum.inl c))]; simp [c]
    · rw [valV_neg (fun z => c (Sum.inl.inj (h1.symm.trans z))), valV_keys h2]
      have c' : t ≠ m := fun z => c z.symm
      simp [c']
noncomputable def ringsOf (L : List Pr) : Int := cnt (Rep geI (nxt L)) (tos L)
theorem ok_ringsG (T : Txt K mg) : FnOk P w K mg base CX0 6 T.f_closed_rings T.d_closed_rings ["pairs"] (spCountG K ringsOf) := by
  have nd := sc_closed_rings.nd
  refine T.F_closed_rings.ok sc_closed_rings (fun vs H Q E h => ?_) (fun cdv A outer s H vs Q E hr h => ?_)
  · obtain ⟨x, d, rfl, _⟩ := h
    rfl
  obtain ⟨x, d, rfl, hd, ht, hT, k⟩ := h
  have G__unlike : FnOk P w K mg base CX0 5 _ _ _ (spUnlG K) := ok_unlikeG T
  have hr__unlike := hr
  refine ⟨_, (pss_cons (ps_set (i := 1) nd rfl (Or.inl rfl) (pe_call G__unlike hr__unlike rfl T.m__unlike T.k__unlike T.b__unlike .nil pass0 (pa_cons (pv 0) pa_nil)))
      (pss_cons (ps_set (i := 2) nd rfl (Or.inl rfl) pe_dnewK)
      (pss_cons (ps_set (i := 3) nd rfl (Or.inl rfl) pe_int)
      (pss_cons (ps_lock (ps_for PassesOwn.never rfl (pi_keys (pv 1)) (pg_name (i := 4) nd rfl (Or.inl rfl))
      (pss_cons (ps_set (i := 5) nd rfl (Or.inl rfl) (pv 4))
      (pss_cons (ps_while PassesOwn.never (PW.pt (pw_and (pt_cmp (pc_din (hu1 hr) (pv 5) (pv 1)) (by rfl)) (pw_and1 (pt_cmp (pc_dnotin (hu1 hr) (pv 5) (pv 2)) (by rfl))))) (pss_cons (ps_dput (hu1 hr) (pv 2) (pv 5) (pv 4) rfl)
      (pss_one (ps_set (i := 5) nd rfl (Or.inl rfl) (pe_dget (hu1 hr) (pv 1) (pv 5) (fun _ _ => rfl))))))
      (pss_one (ps_if (pt_cmpR op_eq (pe_dget1 (hu1 hr) (pv 2) (pv 5) ⟨rfl, rfl, rfl, rfl⟩) (pv 4) (nomark _)) (pss_one (ps_aug (i := 3) nd rfl (Or.inl rfl) pe_int ip_add)) pss_nil))))))
      (pss_one (ps_ret (pv 3))))))), ?_⟩
  refine ⟨_, rfl, x, d, rfl, hd, ht, hT, fun a H1 e1 ha h1 => ?_⟩
  refine fun mt hmt => ?_
  have hma : mt ≠ a := fun z => by rw [z, h1] at hmt; cases hmt
  have hnm : H mt = none := none_of e1 hmt
  have hg := unl_good hT
  have hL0 : (unl (prsOf d)).length ≤ 1000 := by
    refine Nat.le_trans (List.length_filter_le _ _) ?_
    match d, ht with
    | .tuple ds, ht => show (List.map _ ds).length ≤ 1000; rw [List.length_map]; exact ht
    | .none, _ => exact Nat.zero_le _
    | .bool _, _ => exact Nat.zero_le _
    | .int _, _ => exact Nat.zero_le _
    | .str _, _ => exact Nat.zero_le _
    | .list _, _ => exact Nat.zero_le _
    | .dict _, _ => exact Nat.zero_le _
  generalize unl (prsOf d) = L at *
  have htn := hg.nodup
  have htl : (tos L).length = L.length := List.length_map ..
  refine ⟨a, .dK (dkv L), (by rw [upd_ne hma.symm]; exact h1), True.intro, fun od => ?_⟩
  refine ⟨_, rfl, a, od, rfl, .inl ⟨_, upd_same, ?_⟩⟩
  refine for_it walk_keys (fun i σ H' => ∃ (M : List Int) (kvs : List (Key × V)) (o4 o5 : Option V), σ = [some x, some (.ref a), some (.ref mt), some (.int (cnt (Rep geI (nxt L)) M : Nat)), o4, o5] ∧ Same (del H1 a) (del H' a) ∧ H' a = some (.frz od (.dK (dkv L))) ∧ H' mt = some (.dK kvs) ∧
    kvs.map (·.1) = M.map Sum.inl ∧ M.Nodup ∧ (∀ z ∈ M, z ∈ tos L) ∧ (∀ z ∈ (tos L).take i, z ∈ M) ∧ (∀ z ∈ M, ∀ y, nxt L z = some y → y ∈ M ∨ nxt L y = none) ∧ (∀ z v, valV kvs (Sum.inl z) = some v → ∃ s ∈ (tos L).take i, v = .int s)) ?_ ?_ ?_ ?_
  · refine ⟨[], [], none, none, rfl, ?_, upd_same, ?_, rfl, List.nodup_nil, (fun _ m => nomatch m), (fun _ m => nomatch m), (fun _ m => nomatch m), fun z v hv => nomatch hv⟩
    · rw [del_upd]; exact same_del a (same_new hmt _)
    · rw [upd_ne hma]; exact upd_same
  · rintro i σ H' _ ⟨M, kvs, o4, o5, _, _, h, _⟩
    exact h
  · rintro i z σ H' H'' hi ⟨M, kvs, o4, o5, rfl, e, hfa, hm, hk, hnd, hin, hst, hcl, hval⟩ ⟨rfl, kk, vv, hkv, rfl⟩
    obtain ⟨q, hq, rfl, rfl⟩ := dkv_get hkv
    have hti : (tos L)[i]? = some q.1 := by unfold tos; rw [List.getElem?_map, hq]; rfl
    have htk : (tos L).take (i + 1) = (tos L).take i ++ [q.1] := by rw [List.take_succ, hti]; rfl
    refine ⟨_, rfl, ?_⟩
    refine ⟨fun m σ H2 => ∃ (ps : List Int) (at_ : Int) (kv2 : List (Key × V)), σ = [some x, some (.ref a), some (.ref mt), some (.int (cnt (Rep geI (nxt L)) M : Nat)), some (.int q.1), some (.int at_)] ∧ m + (M ++ ps).length = L.length ∧ Chain (nxt L) q.1 ps at_ ∧ Same (del H1 a) (del H2 a) ∧ H2 a = some (.frz od (.dK (dkv L))) ∧ H2 mt = some (.dK kv2) ∧
      kv2.map (·.1) = (M ++ ps).map Sum.inl ∧ (M ++ ps).Nodup ∧ (∀ z ∈ ps, z ∈ tos L) ∧ (∀ z, valV kv2 (Sum.inl z) = if z ∈ ps then some (.int q.1) else valV kvs (Sum.inl z)), ⟨L.length - M.length, [], q.1, kvs, rfl, ?_, .nil, e, hfa, hm, by rw [List.append_nil]; exact hk, by rw [List.append_nil]; exact hnd, (fun _ m => nomatch m), fun z => by rw [if_neg (fun m => nomatch m)]⟩, ?_⟩
    · have := len_le_of_nodup hnd hin
      rw [List.append_nil]
      omega
    rintro m σ H2 ⟨ps, at_, kv2, rfl, hms, hch, e2, hfa2, hm2, hk2, hnd2, hps, hv2⟩
    have hgps : ∀ z ∈ ps, nxt L z ≠ none := fun z mz hz => by
      obtain ⟨y, hy⟩ := nxt_some htn (hps z mz)
      rw [hz] at hy; cases hy
    obtain ⟨hnM, hnp, hdj⟩ := List.nodup_append.mp hnd2
    have hwc := walk_cnt ord_ge hcl hch hnp (fun z mz m2 => hdj z m2 z mz rfl) hgps
    have hq1 : q.1 ∈ tos L := List.mem_of_getElem? hti
    have fin : (nxt L at_ = none ∨ at_ ∈ M ++ ps) → ∀ c : Nat, c = cnt (Rep geI (nxt L)) (M ++ ps) → ∃ (M : List Int) (kvs : List (Key × V)) (o4 o5 : Option V), [some x, some (.ref a), some (.ref mt), some (.int (c : Nat)), some (.int q.1), some (.int at_)] = [some x, some (.ref a), some (.ref mt), some (.int (cnt (Rep geI (nxt L)) M : Nat)), o4, o5] ∧ Same (del H1 a) (del H2 a) ∧ H2 a = some (.frz od (.dK (dkv L))) ∧ H2 mt = some (.dK kvs) ∧
      kvs.map (·.1) = M.map Sum.inl ∧ M.Nodup ∧ (∀ z ∈ M, z ∈ tos L) ∧ (∀ z ∈ (tos L).take (i + 1), z ∈ M) ∧ (∀ z ∈ M, ∀ y, nxt L z = some y → y ∈ M ∨ nxt L y = none) ∧ (∀ z v, valV kvs (Sum.inl z) = some v → ∃ s ∈ (tos L).take (i + 1), v = .int s) := by
      intro hex c hc
      refine ⟨M ++ ps, kv2, _, _, by rw [hc], e2, hfa2, hm2, hk2, hnd2, fun z mz => (List.mem_append.mp mz).elim (hin z) (hps z), fun z mz => ?_, fun z mz y hy => ?_, fun z v hv => ?_⟩
      · rw [htk] at mz
        rcases List.mem_append.mp mz with mz | mz
        · exact List.mem_append_left _ (hst z mz)
        · rw [List.mem_singleton.mp mz]
          rcases hch.start with ⟨e3, e4⟩ | ⟨e3, _⟩
          · rw [e4] at hex
            rcases hex with hex | hex
            · obtain ⟨y, hy⟩ := nxt_some htn hq1
              rw [hex] at hy; cases hy
            · exact hex
          · exact List.mem_append_right _ e3
      · rcases List.mem_append.mp mz with mz | mz
        · exact (hcl z mz y hy).imp (List.mem_append_left _) id
        · obtain ⟨us, vs, es⟩ := List.append_of_mem mz
          rcases hch.next us z vs es z List.mem_cons_self y hy with my | my
          · exact .inl (List.mem_append_right _ (by rw [es]; exact List.mem_append_right _ (List.mem_cons_of_mem _ my)))
          · rw [my]; exact hex.symm
      · rw [hv2] at hv
        rw [htk]
        by_cases c : z ∈ ps
        · rw [if_pos c] at hv
          exact ⟨q.1, List.mem_append_right _ List.mem_cons_self, (Option.some.inj hv).symm⟩
        · rw [if_neg c] at hv
          obtain ⟨s, ms, es⟩ := hval z v hv
          exact ⟨s, List.mem_append_left _ ms, es⟩
    have hnot : q.1 ∉ (tos L).take i := fun m => by
      have e3 : (tos L).take i ++ q.1 :: (tos L).drop (i + 1) = tos L := by
        have hil : i < (tos L).length := (List.getElem?_eq_some_iff.mp hti).1
        have : (tos L).drop i = q.1 :: (tos L).drop (i + 1) := by rw [List.drop_eq_getElem_cons hil]; congr 1; exact Option.some.inj ((List.getElem?_eq_getElem hil).symm.trans hti)
        rw [← this, List.take_append_drop]
      rw [← e3] at htn
      exact (List.nodup_append.mp htn).2.2 q.1 m q.1 List.mem_cons_self rfl
    have dgF : DGet H2 a (.int at_) ((nxt L at_).map V.int) := by
      rw [← valV_nxt]
      exact .inl ⟨_, Sum.inl at_, .inr ⟨od, hfa2⟩, rfl, rfl⟩
    have dgM : DGet H2 mt (.int at_) (valV kv2 (Sum.inl at_)) := .inl ⟨_, Sum.inl at_, .inl hm2, rfl, rfl⟩
    have hkm := valV_keys (t := at_) hk2
    refine ⟨_, rfl, _, rfl, a, _, rfl, dgF, _, rfl, ?_⟩
    cases hnx : nxt L at_ with
    | none =>
      refine iteF ?_
      refine iteF ?_
      have hno : at_ ∉ M ++ ps := fun m => by
        rcases List.mem_append.mp m with m | m
        · obtain ⟨y, hy⟩ := nxt_some htn (hin _ m); rw [hnx] at hy; cases hy
        · exact hgps _ m hnx
      have hvn : valV kv2 (Sum.inl at_) = none := by
        rw [decide_eq_false hno] at hkm
        cases hh : valV kv2 (Sum.inl at_) with
        | none => rfl
        | some v => rw [hh] at hkm; cases hkm
      rw [hvn] at dgM
      refine ⟨_, rfl, mt, rfl, .inl ⟨_, .inl hm2⟩, _, rfl, _, dgM, _, rfl, rfl, _, rfl, ?_⟩
      refine iteF ?_
      exact fin (.inl hnx) _ (by rw [cnt_app, hwc.2 (.inl hnx)]; rfl)
    | some y =>
      refine iteT ?_
      refine ⟨_, rfl, _, rfl, mt, _, rfl, dgM, _, rfl, ?_⟩
      rw [hkm]
      by_cases cin : at_ ∈ M ++ ps
      · refine ifF (by rw [decide_eq_true cin]; rfl) ?_
        by_cases c : at_ ∈ ps
        · rw [hv2, if_pos c] at dgM
          refine ⟨_, rfl, mt, rfl, .inl ⟨_, .inl hm2⟩, _, rfl, _, dgM, _, rfl, rfl, _, rfl, ?_⟩
          refine ifT (decide_eq_true rfl) ?_
          refine ⟨_, rfl, _, _, rfl, rfl, ?_⟩
          exact fin (.inr cin) (cnt (Rep geI (nxt L)) M + 1) (by rw [cnt_app, hwc.1 c])
        · have cM : at_ ∈ M := (List.mem_append.mp cin).resolve_right c
          rw [hv2, if_neg c] at dgM
          have hks := valV_keys (t := at_) hk
          rw [decide_eq_true cM] at hks
          obtain ⟨v, hv⟩ := Option.isSome_iff_exists.mp hks
          obtain ⟨s, ms, rfl⟩ := hval at_ v hv
          rw [hv] at dgM
          refine ⟨_, rfl, mt, rfl, .inl ⟨_, .inl hm2⟩, _, rfl, _, dgM, _, rfl, rfl, _, rfl, ?_⟩
          refine ifF (decide_eq_false fun z => hnot (by rw [← V.int.inj z]; exact ms)) ?_
          exact fin (.inr cin) _ (by rw [cnt_app, hwc.2 (.inr cM)]; rfl)
      · refine ifT (by rw [decide_eq_false cin]; rfl) ?_
        refine ⟨_, fun _ _ z => z, ?_⟩
        have hat : at_ ∈ tos L := List.mem_map.mpr ⟨_, nxt_mem hnx, rfl⟩
        have hndx : ((M ++ ps) ++ [at_]).Nodup := List.nodup_append.mpr ⟨hnd2, by simp, fun z mz y my => fun q => cin (by rw [← List.mem_singleton.mp my, ← q]; exact mz)⟩
        have hlx : ((M ++ ps) ++ [at_]).length ≤ (tos L).length := len_le_of_nodup hndx fun z mz => by
          rcases List.mem_append.mp mz with mz | mz
          · exact (List.mem_append.mp mz).elim (hin z) (hps z)
          · rw [List.mem_singleton.mp mz]; exact hat
        have hkl : kv2.length = (M ++ ps).length := by
          have := congrArg List.length hk2
          rw [List.length_map, List.length_map] at this
          exact this
        have hvn : valV kv2 (Sum.inl at_) = none := by
          rw [decide_eq_false cin] at hkm
          cases hh : valV kv2 (Sum.inl at_) with
          | none => rfl
          | some v => rw [hh] at hkm; cases hkm
        rw [List.length_append] at hlx
        have hl1 : ([at_] : List Int).length = 1 := rfl
        refine ⟨_, rfl, _, rfl, _, rfl, mt, _, rfl, DPut.k (k := Sum.inl at_) hm2 (szl (by omega)), ?_⟩
        rw [putK_new _ hvn]
        have dgF2 : DGet (upd H2 mt (.dK (kv2 ++ [(Sum.inl at_, V.int q.1)]))) a (.int at_) (some (V.int y)) := by
          have : valV (dkv L) (Sum.inl at_) = some (V.int y) := by rw [valV_nxt, hnx]; rfl
          exact .inl ⟨_, Sum.inl at_, .inr ⟨od, by rw [upd_ne hma.symm]; exact hfa2⟩, rfl, this.symm⟩
        refine ⟨_, rfl, _, rfl, a, V.int y, rfl, dgF2, ?_⟩
        refine ⟨m - 1, by omega, ps ++ [at_], y, kv2 ++ [(Sum.inl at_, V.int q.1)], rfl, ?_, .snoc hch hnx, ?_, ?_, upd_same, ?_, ?_, ?_, ?_⟩
        · rw [← List.append_assoc, List.length_append]; omega
        · intro b u hb
          have q2 := e2 b u hb
          by_cases h1 : b = a
          · subst h1; rw [del_same] at q2; cases q2
          · rw [del_ne h1] at q2 hb ⊢
            rw [upd_ne (ne_of_none hb hmt)]
            exact q2
        · rw [upd_ne hma.symm]; exact hfa2
        · rw [← List.append_assoc, List.map_append, List.map_append, hk2]; rfl
        · rw [← List.append_assoc]; exact hndx
        · intro z mz
          rcases List.mem_append.mp mz with mz | mz
          · exact hps z mz
          · rw [List.mem_singleton.mp mz]; exact hat
        · intro z
          rw [valV_snoc _ _ _ _ hvn, hv2]
          by_cases c1 : z = at_
          · rw [if_pos (congrArg Sum.inl c1), if_pos (List.mem_append_right _ (by rw [c1]; exact List.mem_cons_self))]
          · rw [if_neg (fun h => c1 (Sum.inl.inj h))]
            by_cases c2 : z ∈ ps
            · rw [if_pos c2, if_pos (List.mem_append_left _ c2)]
            · rw [if_neg c2, if_neg (fun h => (List.mem_append.mp h).elim c2 fun h => c1 (List.mem_singleton.mp h))]
  · rintro σ H' ⟨M, kvs, o4, o5, rfl, e, hfa, hm, hk, hnd, hin, hst, hcl, hval⟩
    refine ⟨hfa, ?_⟩
    have hpm : M.Perm (tos L) := perm_of_cover (tos L) M htn (fun z mz => hst z (by rw [dkv_len, ← htl, List.take_length]; exact mz)) (len_le_of_nodup hnd hin)
    rw [cnt_perm hpm]
    exact ⟨_, rfl, k _ (same_mut (same_thru e1 ha e) ha)⟩
end
end Lk

set_option Elab.async false
set_option linter.all false
set_option maxRecDepth 100000
set_option maxHeartbeats 4000000
namespace Lk
open PySem PySem.Spec PyProof.Rows L2
def flatD : PyData → Bool
  | .none => true
  | .bool _ => true
  | .int _ => true
  | .str _ => true
  | _ => false
def verbD : PyData → Bool
  | .str z => z == "move" || z == "swap"
  | _ => false
def cellD (n : Int) : PyData → Bool
  | .int i => decide (0 ≤ i) && decide (i < n)
  | _ => false
def isMv (n : Int) : PyData → Bool
  | .tuple [v, a, b] => verbD v && (cellD n a && cellD n b)
  | _ => false
/-- a row's first part is no list or tuple -/
def calmD : PyData → Bool
  | .tuple [v, _, _] => flatD v
  | _ => true
def isMvs (n : Int) : PyData → Bool
  | .tuple ds => ds.all (isMv n)
  | _ => false
def calmDs : PyData → Bool
  | .tuple ds => ds.all calmD
  | _ => true
def rwOf : PyData → Rw
  | .tuple [.str z, .int i, .int j] => (z == "move", i, j)
  | _ => (true, 0, 0)
def rwsOf : PyData → List Rw
  | .tuple ds => ds.map rwOf
  | _ => []
def appL (ws : List Int) : Rw → List Int
  | (true, i, j) => ws.set i.toNat (ws.getD j.toNat 0)
  | (false, i, j) => (ws.set i.toNat (ws.getD j.toNat 0)).set j.toNat (ws.getD i.toNat 0)
def runL (ws : List Int) (R : List Rw) : List Int := R.foldl appL ws
def spMv (K : PySem.W.Frag) : Sp := fun vs H Q _ => ∃ (x : V) (d : PyData) (n : Int), vs = [x, .int n] ∧ Dp K H x d ∧ calmD d = true ∧ ∀ H', Same H H' → Q (.bl (isMv n d)) H'
def spMovedG (K : PySem.W.Frag) : Sp := fun vs H Q _ => ∃ (x : V) (d : PyData) (b : Addr) (ws : List Int), vs = [x, .ref b] ∧ Dp K H x d ∧ tlen d ≤ 1000 ∧ calmDs d = true ∧ SqT K H b (iV ws) ∧ isMvs ws.length d = true ∧ ∀ p H', Same H H' → SqT K H' p (iV (runL ws (rwsOf d))) → Q (.ref p) H'
def spMovedB (C : Addr) (K : PySem.W.Frag) : Sp := fun vs H Q E => ∃ (x : V) (d : PyData) (b : Addr) (ws : List Int), vs = [x, .ref b] ∧ Dp K H x d ∧ tlen d ≤ 1000 ∧ calmDs d = true ∧ SqT K H b (iV ws) ∧ isMvs ws.length d = false ∧ notUsable C "rows" H E
section
variable {P : Program} {w : World} {K : PySem.W.Frag} {mg : Str → Option Value} {base : Heap}
theorem in_verbs {H : Hp} {x : V} {d : PyData} (h : Dp K H x d) (f : flatD d = true) : flatV x = true ∧ inV x [.str "move", .str "swap"] = verbD d := by
  cases h with
  | non => exact ⟨rfl, rfl⟩
  | bl b => exact ⟨rfl, rfl⟩
  | int i => exact ⟨rfl, rfl⟩
  | str z =>
    refine ⟨rfl, ?_⟩
    show (((("move" : Str) == z) || ((("swap" : Str) == z) || false))) = (z == "move" || z == "swap")
    rw [Bool.or_false, BEq.comm (a := ("move" : Str)), BEq.comm (a := ("swap" : Str))]
  | lst h a => cases f
  | tup h a => cases f
theorem ok_moving_row (T : Txt K mg) : FnOk P w K mg base CX0 3 T.f__is_moving_row T.d__is_moving_row ["thing", "many"] (spMv K) := by
  have nd := sc__is_moving_row.nd
  refine T.F__is_moving_row.ok sc__is_moving_row (fun vs H Q E h => ?_) (fun cdv A outer s H vs Q E hr h => ?_)
  · obtain ⟨x, d, n, rfl, _⟩ := h
    rfl
  obtain ⟨x, d, n, rfl, hd, hc, k⟩ := h
  have G_is_number : FnOk P w K mg base CX0 2 _ _ _ (sp1 isN K) := ok_is_number T
  have hr_is_number := hr
  refine ⟨_, (pss_cons (ps_if (PW.pt (pw_or (pt_not (pt_val (pe_callB call_isi (by rfl) T.z_isinstance (by decide +kernel) (pa_cons (pv 0) (pa_cons (pe_bltn (v := .ty "tuple") rfl T.z_tuple (by decide +kernel) rfl) pa_nil))))) (pw_or (pt_cmpR op_ne (pe_callB call_len_seq (by rfl) T.z_len PySem.boot_len (pa_cons (pv 0) pa_nil)) pe_int (nomark _)) (pw_or1 (pt_cmpR op_notIn_seq (pe_ix ix_tup (pv 0) pe_int (fun _ _ => rfl)) (pe_tup (pa_cons pe_str (pa_cons pe_str pa_nil))) (by rfl)))))) (pss_one (ps_ret pe_bl)) pss_nil)
      (pss_one (ps_ret (pe_callB (cr_all rfl) (by rfl) T.z_all (by decide +kernel) (pa_cons (pe_lc (own := [("cell", 2)]) (g := gName 2) (tt := tYes) (by rfl) nd (pi_tup (pe_slice sl_tupS (pv 0) (po_some pe_int) po_none)) (blkOk_by (own := [("cell", 2)]) (N := sl__is_moving_row) (sc := defScope s__is_moving_row) (by decide +kernel)) (fun _ _ _ _ _ => pg_name (i := 2) nd rfl (Or.inl rfl)) (fun _ _ _ _ _ => pts_nil) (fun _ _ _ _ _ => (pe_and (pe_call G_is_number hr_is_number rfl T.m_is_number T.k_is_number T.b_is_number .nil pass0 (pa_cons (pv 2) pa_nil)) (pe_one (pe_cmpR op_lt (pv 2) (pv 1) (nomark _)))))) pa_nil))))), ?_⟩
  refine ⟨_, rfl, x, .ty "tuple", _, _, _, rfl, .ty "tuple", ty_of hd, kit_tup hd, _, rfl, ?_⟩
  cases hd with
  | non => exact k H (Same.refl _)
  | bl b => exact k H (Same.refl _)
  | int i => exact k H (Same.refl _)
  | str z => exact k H (Same.refl _)
  | lst h a => exact k H (Same.refl _)
  | @tup a xs ds ha hx =>
    have hl := dp_len hx
    refine ⟨_, rfl, a, xs, rfl, .inr ha, rfl, _, rfl, ?_⟩
    by_cases c3 : ds.length = 3
    case neg =>
      refine ifT (ne_t (by omega)) ?_
      have e : isMv n (.tuple ds) = false := by
        match ds, c3 with
        | [], _ => rfl
        | [_], _ => rfl
        | [_, _], _ => rfl
        | [_, _, _], c => exact absurd rfl c
        | _ :: _ :: _ :: _ :: _, _ => rfl
      rw [e] at k
      exact k H (Same.refl _)
    refine ifF (ne_f (by omega)) ?_
    obtain ⟨v, d1, d2, rfl⟩ : ∃ v d1 d2, ds = [v, d1, d2] := by
      match ds, c3 with
      | [v, d1, d2], _ => exact ⟨v, d1, d2, rfl⟩
    obtain ⟨x0, x1, x2, rfl⟩ : ∃ x0 x1 x2, xs = [x0, x1, x2] := by
      match xs, hl with
      | [x0, x1, x2], _ => exact ⟨x0, x1, x2, rfl⟩
    obtain ⟨h0, h1, h2⟩ : Dp K H x0 v ∧ Dp K H x1 d1 ∧ Dp K H x2 d2 := by
      cases hx with
      | cons h0 t => cases t with
        | cons h1 t => cases t with
          | cons h2 _ => exact ⟨h0, h1, h2⟩
    obtain ⟨f0, i0⟩ := in_verbs h0 hc
    refine ⟨_, rfl, a, _, _, _, rfl, rfl, ha, atI_nat (show [x0, x1, x2][0]? = some x0 from rfl), ?_⟩
    refine ⟨(by show 2 ≤ sizeLine; decide), fun vp hvp => ?_⟩
    have e1 := same_new hvp (.tup [.str "move", .str "swap"])
    refine ⟨vp, _, rfl, .inr (SqT.of upd_same), f0, rfl, ?_⟩
    refine ⟨_, rfl, ?_⟩
    have ek : isMv n (.tuple [v, d1, d2]) = (verbD v && (cellD n d1 && cellD n d2)) := rfl
    rw [ek] at k
    have ei : (!inV x0 [.str "move", .str "swap"]) = !verbD v := by rw [i0]
    cases hv : verbD v with
    | false =>
      refine ifT (by show (!inV x0 [.str "move", .str "swap"]) = true; rw [ei, hv]; rfl) ?_
      rw [hv, Bool.false_and] at k
      exact k _ e1
    | true =>
      refine ifF (by show (!inV x0 [.str "move", .str "swap"]) = false; rw [ei, hv]; rfl) ?_
      rw [hv, Bool.true_and] at k
      refine ⟨_, rfl, _, rfl, a, _, rfl, seqT_same e1 ha, fun p1 H2 e2 h1' => ?_⟩
      have h1'' : SqT K H2 p1 ([x0, x1, x2].drop 1) := cut_lo (n := 1) ▸ h1'
      replace h1' : SqT K H2 p1 [x1, x2] := h1''
      refine ⟨p1, rfl, ⟨_, h1'⟩, fun D hD => ?_⟩
      refine lc_tup (K := K) (a := p1) (xs := [x1, x2]) (fun i H' => Same H2 H' ∧ H' D = some (.lst ((([d1, d2].take i).map (cellD n)).map V.bl))) ?_ ?_ ?_ ?_
      · exact ⟨same_new hD _, upd_same⟩
      · rintro i H' _ ⟨e, _⟩
        exact seqT_same e h1'
      · rintro i z H' hiz ⟨e, hDl⟩
        obtain ⟨d3, _, hdi, hdz⟩ := dp_get (DpAll.cons h1 (.cons h2 .nil)) hiz
        have hi : i < 2 := (List.getElem?_eq_some_iff.mp hdi).1
        have hdz2 := dp_same e (dp_same e2 (dp_same e1 hdz))
        have fin : ∀ H3, Same H' H3 → Same H2 (upd H3 D (.lst ((([d1, d2].take i).map (cellD n)).map V.bl ++ [V.bl (cellD n d3)]))) ∧ (upd H3 D (.lst ((([d1, d2].take i).map (cellD n)).map V.bl ++ [V.bl (cellD n d3)]))) D = some (.lst ((([d1, d2].take (i + 1)).map (cellD n)).map V.bl)) := fun H3 e3 => by
          refine ⟨same_mut (e.trans e3) hD, ?_⟩
          rw [upd_same, List.take_succ, hdi, List.map_append, List.map_append]
          rfl
        refine ⟨rfl, ?_⟩
        refine ⟨_, rfl, z, d3, rfl, hdz2, _, rfl, ?_⟩
        have hlen : ((([d1, d2].take i).map (cellD n)).map V.bl).length ≤ 1000000 := by rw [List.length_map, List.length_map, List.length_take]; omega
        refine ite2 (fun c => ?_) (fun c => ?_)
        · cases hdz with
          | int j =>
            refine ⟨_, rfl, _, rfl, _, _, rfl, rfl, ?_⟩
            have ec : cellD n (.int j) = decide (j < n) := by
              show (decide (0 ≤ j) && decide (j < n)) = _
              rw [show decide (0 ≤ j) = true from c]; rfl
            rw [ec] at fin
            exact ⟨_, hDl, szl hlen, fin H' (Same.refl _)⟩
          | _ => cases c
        · have ec : cellD n d3 = false := by
            cases hdz with
            | int j =>
              show (decide (0 ≤ j) && decide (j < n)) = false
              rw [show decide (0 ≤ j) = false from Bool.eq_false_iff.mpr c]; rfl
            | _ => rfl
          rw [ec] at fin
          exact ⟨_, hDl, szl hlen, fin H' (Same.refl _)⟩
      · rintro H3 ⟨e, hDl⟩
        refine ⟨D, _, rfl, SqL.of hDl, ?_⟩
        have ea : (((([d1, d2].take 2).map (cellD n))).all id) = (cellD n d1 && cellD n d2) := by
          show (cellD n d1 && (cellD n d2 && true)) = _
          rw [Bool.and_true]
        exact (congrArg (fun z => Q (.bl z) H3) ea).mpr (k _ (e1.trans (e2.trans e)))
theorem ixN_nat {n j : Nat} (h : j < n) : ixN n (j : Int) = some j := by
  unfold ixN
  rw [if_pos (by omega), if_pos (by omega)]; simp
theorem iV_set (ws : List Int) (j : Nat) (v : Int) : (iV ws).set j (.int v) = iV (ws.set j v) := by unfold iV; rw [List.map_set]
theorem iV_at {ws : List Int} {j : Nat} (h : j < ws.length) : (iV ws)[j]? = some (.int (ws.getD j 0)) := by
  unfold iV
  rw [List.getElem?_map, List.getD_eq_getElem?_getD, List.getElem?_eq_getElem h]; rfl
theorem appL_len (ws : List Int) (r : Rw) : (appL ws r).length = ws.length := by
  obtain ⟨b, i, j⟩ := r
  cases b
  · show ((ws.set _ _).set _ _).length = _
    rw [List.length_set, List.length_set]
  · show (ws.set _ _).length = _
    rw [List.length_set]
theorem runL_len : ∀ (R : List Rw) (ws : List Int), (runL ws R).length = ws.length
  | [], _ => rfl
  | r :: R, ws => (runL_len R (appL ws r)).trans (appL_len ws r)
theorem mv_of {H : Hp} {x : V} {d : PyData} {n : Nat} (h : Dp K H x d) (e : isMv n d = true) : ∃ (a : Addr) (z : Str) (i j : Nat), x = .ref a ∧ d = .tuple [.str z, .int i, .int j] ∧ SqT K H a [.str z, .int i, .int j] ∧ (z == "move" || z == "swap") = true ∧ i < n ∧ j < n := by
  cases h with
  | non => cases e
  | bl b => cases e
  | int i => cases e
  | str z => cases e
  | lst h a => cases e
  | @tup a xs ds ha hx =>
    match ds, hx, e with
    | [d0, d1, d2], hx, e =>
      have e' : (verbD d0 && (cellD n d1 && cellD n d2)) = true := e
      obtain ⟨e0, e12⟩ := Bool.and_eq_true_iff.mp e'
      obtain ⟨e1, e2⟩ := Bool.and_eq_true_iff.mp e12
      cases hx with
      | cons h0 t => cases t with
        | cons h1 t => cases t with
          | cons h2 t =>
            cases t
            cases h0 with
            | str z =>
              cases h1 with
              | int i =>
                cases h2 with
                | int j =>
                  have e1' : (decide (0 ≤ i) && decide (i < (n : Int))) = true := e1
                  have e2' : (decide (0 ≤ j) && decide (j < (n : Int))) = true := e2
                  obtain ⟨p1, p2⟩ := Bool.and_eq_true_iff.mp e1'
                  obtain ⟨q1, q2⟩ := Bool.and_eq_true_iff.mp e2'
                  have p1 := of_decide_eq_true p1
                  have p2 := of_decide_eq_true p2
                  have q1 := of_decide_eq_true q1
                  have q2 := of_decide_eq_true q2
                  obtain ⟨i, rfl⟩ := Int.eq_ofNat_of_zero_le p1
                  obtain ⟨j, rfl⟩ := Int.eq_ofNat_of_zero_le q1
                  exact ⟨a, z, i, j, rfl, rfl, ha, e0, by omega, by omega⟩
                | _ => cases e2
              | _ => cases e1
            | _ => cases e0
    | [], _, e => cases e
    | [_], _, e => cases e
    | [_, _], _, e => cases e
    | _ :: _ :: _ :: _ :: _, _, e => cases e
theorem all_id (ds : List PyData) (f : PyData → Bool) : ((ds.map f).all id) = ds.all f := by rw [List.all_map]; rfl
theorem ok_movedB (T : Txt K mg) : FnOk P w K mg base (L2N.CX P w) 4 T.f_moved_by T.d_moved_by ["rows", "words"] (spMovedB T.C_NotUsable K) := by
  have nd := sc_moved_by.nd
  refine okXN T.F_moved_by sc_moved_by (fun vs H Q E h => ?_) (fun cdv A outer s H vs Q E hr h => ?_)
  · obtain ⟨x, d, b, ws, rfl, _⟩ := h
    rfl
  obtain ⟨x, d, b, ws, rfl, hd, ht, hc, hb, hm, k⟩ := h
  have G__is_moving_row : FnOk P w K mg base CX0 3 _ _ _ (spMv K) := ok_moving_row T
  have hr__is_moving_row := hr
  have G_NotUsable__init__ : FnOk P w K mg base CX0 1 _ _ _ (spInit T.C_NotUsable) := ok_init T
  have hr_NotUsable__init__ := hr.mono (j := 2) (by omega)
  refine ⟨_, (pss_cons (ps_if (PW.pt (pw_or (pt_not (pt_val (pe_callB call_isi (by rfl) T.z_isinstance (by decide +kernel) (pa_cons (pv 0) (pa_cons (pe_bltn (v := .ty "tuple") rfl T.z_tuple (by decide +kernel) rfl) pa_nil))))) (pw_or1 (pt_not (pt_val (pe_callB (cr_all rfl) (by rfl) T.z_all (by decide +kernel) (pa_cons (pe_lc (own := [("row", 6)]) (g := gName 6) (tt := tYes) (by rfl) nd (pi_tup (pv 0)) (blkOk_by (own := [("row", 6)]) (N := sl_moved_by) (sc := defScope s_moved_by) (by decide +kernel)) (fun _ _ _ _ _ => pg_name (i := 6) nd rfl (Or.inl rfl)) (fun _ _ _ _ _ => pts_nil) (fun _ _ _ _ _ => (pe_call G__is_moving_row hr__is_moving_row rfl T.m__is_moving_row T.k__is_moving_row T.b__is_moving_row .nil pass0 (pa_cons (pv 6) (pa_cons (pe_callB (call_lenK (K := K) rfl) (by rfl) T.z_len PySem.boot_len (pa_cons (pv 1) pa_nil)) pa_nil))))) pa_nil))))))) (pss_one (L2N.ps_raise rfl (L2N.takes_of rfl rfl rfl rfl) (pmk_oexN T.x_NotUsable T.i_NotUsable T.t_NotUsable G_NotUsable__init__ hr_NotUsable__init__ T.b_NotUsable__init__ .nil pass0 rfl T.mC_NotUsable (by exact (pa_cons pe_str (pa_cons (pe_un un_neg pe_int) pa_nil)))))) pss_nil)
      (pss_cons ps_never (pss_cons ps_never (pss_one ps_never)))), ?_⟩
  have no : ∀ H1, Same H H1 → ∀ a, H1 a = none → spInit T.C_NotUsable [.ref a, .str "rows", .int (-1)] (upd H1 a (exo a T.C_NotUsable none))
      (fun v H2 => v = .non ∧ ∃ (d : Addr) (fs : List (Str × V)), H2 a = some (exo a T.C_NotUsable (some d)) ∧ H2 d = some (exd d fs) ∧ H1 d = none ∧ E (.ref T.C_NotUsable) (some d) (upd (del H2 a) d (.xd fs))) (fun _ _ _ => False) :=
    fun H1 e1 => made fun d1 H2 e2 hn he => k d1 H2 (e1.trans e2) (none_of e1 hn) he
  refine ⟨_, rfl, x, .ty "tuple", _, _, _, rfl, .ty "tuple", ty_of hd, kit_tup hd, _, rfl, ?_⟩
  cases hd with
  | non => exact ⟨_, rfl, (by show 2 ≤ 1000; decide), no H (Same.refl _)⟩
  | bl b => exact ⟨_, rfl, (by show 2 ≤ 1000; decide), no H (Same.refl _)⟩
  | int i => exact ⟨_, rfl, (by show 2 ≤ 1000; decide), no H (Same.refl _)⟩
  | str z => exact ⟨_, rfl, (by show 2 ≤ 1000; decide), no H (Same.refl _)⟩
  | lst h a => exact ⟨_, rfl, (by show 2 ≤ 1000; decide), no H (Same.refl _)⟩
  | @tup a xs ds ha hx =>
    have hl := dp_len hx
    have hz : ds.length ≤ 1000 := ht
    refine ⟨_, rfl, a, rfl, ⟨_, ha⟩, fun D hD => ?_⟩
    refine lc_tup (K := K) (a := a) (xs := xs) (fun i H' => Same H H' ∧ H' D = some (.lst (((ds.take i).map (isMv ws.length)).map V.bl))) ?_ ?_ ?_ ?_
    · exact ⟨same_new hD _, upd_same⟩
    · rintro i H' _ ⟨e, _⟩
      exact seqT_same e ha
    · rintro i z H' hiz ⟨e, hDl⟩
      obtain ⟨d3, _, hdi, hdz⟩ := dp_get hx hiz
      have hi : i < ds.length := (List.getElem?_eq_some_iff.mp hdi).1
      refine ⟨rfl, ?_⟩
      refine ⟨_, rfl, _, rfl, b, _, rfl, .inr (seqT_same e hb), z, d3, ws.length, ?_, dp_same e hdz, ?_, fun H3 e3 => ?_⟩
      · rw [iV_len]; rfl
      · exact List.all_eq_true.mp hc d3 (List.mem_of_getElem? hdi)
      · refine ⟨_, e3 _ _ hDl, (by rw [List.length_map, List.length_map, List.length_take]; exact szl (by omega)), same_mut (e.trans e3) hD, ?_⟩
        rw [upd_same, List.take_succ, hdi, List.map_append, List.map_append]
        rfl
    · rintro H1 ⟨e, hDl⟩
      rw [hl, List.take_length] at hDl
      refine ⟨D, _, rfl, SqL.of hDl, _, rfl, ?_⟩
      rw [all_id]
      have hm' : ds.all (isMv ws.length) = false := hm
      rw [hm']
      refine iteT ?_
      exact ⟨_, rfl, (by show 2 ≤ 1000; decide), no H1 e⟩
theorem ok_movedG (T : Txt K mg) : FnOk P w K mg base CX0 4 T.f_moved_by T.d_moved_by ["rows", "words"] (spMovedG K) := by
  have nd := sc_moved_by.nd
  refine T.F_moved_by.ok sc_moved_by (fun vs H Q E h => ?_) (fun cdv A outer s H vs Q E hr h => ?_)
  · obtain ⟨x, d, b, ws, rfl, _⟩ := h
    rfl
  obtain ⟨x, d, b, ws, rfl, hd, ht, hc, hb, hm, k⟩ := h
  have G__is_moving_row : FnOk P w K mg base CX0 3 _ _ _ (spMv K) := ok_moving_row T
  have hr__is_moving_row := hr
  refine ⟨_, (pss_cons (ps_if (PW.pt (pw_or (pt_not (pt_val (pe_callB call_isi (by rfl) T.z_isinstance (by decide +kernel) (pa_cons (pv 0) (pa_cons (pe_bltn (v := .ty "tuple") rfl T.z_tuple (by decide +kernel) rfl) pa_nil))))) (pw_or1 (pt_not (pt_val (pe_callB (cr_all rfl) (by rfl) T.z_all (by decide +kernel) (pa_cons (pe_lc (own := [("row", 6)]) (g := gName 6) (tt := tYes) (by rfl) nd (pi_tup (pv 0)) (blkOk_by (own := [("row", 6)]) (N := sl_moved_by) (sc := defScope s_moved_by) (by decide +kernel)) (fun _ _ _ _ _ => pg_name (i := 6) nd rfl (Or.inl rfl)) (fun _ _ _ _ _ => pts_nil) (fun _ _ _ _ _ => (pe_call G__is_moving_row hr__is_moving_row rfl T.m__is_moving_row T.k__is_moving_row T.b__is_moving_row .nil pass0 (pa_cons (pv 6) (pa_cons (pe_callB (call_lenK (K := K) rfl) (by rfl) T.z_len PySem.boot_len (pa_cons (pv 1) pa_nil)) pa_nil))))) pa_nil))))))) (pss_one ps_never) pss_nil)
      (pss_cons (ps_set (i := 2) nd rfl (Or.inl rfl) (pe_callTy call_list_of (by rfl) T.z_list (by decide +kernel) (pa_cons (pv 1) pa_nil)))
      (pss_cons (ps_for PassesOwn.never rfl (pi_tup (pv 0)) (pg_tup rfl (pgs_cons (pg_name (i := 3) nd rfl (Or.inl rfl)) (pgs_cons (pg_name (i := 4) nd rfl (Or.inl rfl)) (pgs_cons (pg_name (i := 5) nd rfl (Or.inl rfl)) pgs_nil))))
      (pss_one (ps_if (pt_cmpR op_eq (pv 3) pe_str (nomark _)) (pss_one (ps_asg (pe_ix ix_list (pv 2) (pv 5) (fun _ _ => rfl)) (pg_sub (pv 2) (pv 4) set_list))) (pss_one (ps_asg (pe_tup (pa_cons (pe_ix ix_list (pv 2) (pv 5) (fun _ _ => rfl)) (pa_cons (pe_ix ix_list (pv 2) (pv 4) (fun _ _ => rfl)) pa_nil))) (pg_tup rfl (pgs_cons (pg_sub (pv 2) (pv 4) set_list) (pgs_cons (pg_sub (pv 2) (pv 5) set_list) pgs_nil))))))))
      (pss_one (ps_ret (pe_callTy call_tuple_of (by rfl) T.z_tuple (by decide +kernel) (pa_cons (pv 2) pa_nil))))))), ?_⟩
  refine ⟨_, rfl, x, .ty "tuple", _, _, _, rfl, .ty "tuple", ty_of hd, kit_tup hd, _, rfl, ?_⟩
  cases hd with
  | non => cases hm
  | bl b => cases hm
  | int i => cases hm
  | str z => cases hm
  | lst h a => cases hm
  | @tup a xs ds ha hx =>
    have hl := dp_len hx
    have hz : ds.length ≤ 1000 := ht
    refine ⟨_, rfl, a, rfl, ⟨_, ha⟩, fun D hD => ?_⟩
    refine lc_tup (K := K) (a := a) (xs := xs) (fun i H' => Same H H' ∧ H' D = some (.lst (((ds.take i).map (isMv ws.length)).map V.bl))) ?_ ?_ ?_ ?_
    · exact ⟨same_new hD _, upd_same⟩
    · rintro i H' _ ⟨e, _⟩
      exact seqT_same e ha
    · rintro i z H' hiz ⟨e, hDl⟩
      obtain ⟨d3, _, hdi, hdz⟩ := dp_get hx hiz
      have hi : i < ds.length := (List.getElem?_eq_some_iff.mp hdi).1
      refine ⟨rfl, ?_⟩
      refine ⟨_, rfl, _, rfl, b, _, rfl, .inr (seqT_same e hb), z, d3, ws.length, ?_, dp_same e hdz, ?_, fun H3 e3 => ?_⟩
      · rw [iV_len]; rfl
      · exact List.all_eq_true.mp hc d3 (List.mem_of_getElem? hdi)
      · refine ⟨_, e3 _ _ hDl, (by rw [List.length_map, List.length_map, List.length_take]; exact szl (by omega)), same_mut (e.trans e3) hD, ?_⟩
        rw [upd_same, List.take_succ, hdi, List.map_append, List.map_append]
        rfl
    · rintro H1 ⟨e, hDl⟩
      rw [hl, List.take_length] at hDl
      refine ⟨D, _, rfl, SqL.of hDl, _, rfl, ?_⟩
      rw [all_id]
      have hm' : ds.all (isMv ws.length) = true := hm
      rw [hm']
      refine iteF ?_
      refine ⟨_, rfl, b, _, rfl, .inr (seqT_same e hb), fun cl hcl => ?_⟩
      refine ⟨_, rfl, a, rfl, ⟨_, seqT_same (same_new hcl _) (seqT_same e ha)⟩, ?_⟩
      have hx1 := dpAll_same (same_new hcl (.lst (iV ws))) (dpAll_same e hx)
      refine for_tup (K := K) (a := a) (xs := xs) (fun i σ H' => ∃ (o3 o4 o5 : Option V), σ = [some (.ref a), some (.ref b), some (.ref cl), o3, o4, o5, none] ∧ Same H1 H' ∧ H' cl = some (.lst (iV (runL ws ((rwsOf (.tuple ds)).take i))))) ?_ ?_ ?_ ?_
      · exact ⟨none, none, none, rfl, same_new hcl _, upd_same⟩
      · rintro i σ H' _ ⟨o3, o4, o5, _, e', _⟩
        exact seqT_same e' (seqT_same e ha)
      · rintro i z σ H2 hiz ⟨o3, o4, o5, rfl, e2, h2⟩
        obtain ⟨d3, _, hdi, hdz⟩ := dp_get hx hiz
        obtain ⟨ar, vz, i1, j1, rfl, rfl, har, hvz, hi1, hj1⟩ := mv_of (dp_same e2 (dp_same e hdz)) (List.all_eq_true.mp hm' _ (List.mem_of_getElem? hdi))
        have hrw : (rwsOf (.tuple ds))[i]? = some (vz == "move", (i1 : Int), (j1 : Int)) := by
          show (ds.map rwOf)[i]? = _
          rw [List.getElem?_map, hdi]; rfl
        have er : runL ws ((rwsOf (.tuple ds)).take (i + 1)) = appL (runL ws ((rwsOf (.tuple ds)).take i)) (vz == "move", (i1 : Int), (j1 : Int)) := by
          rw [List.take_succ, hrw]
          exact List.foldl_append ..
        have hlen := runL_len ((rwsOf (.tuple ds)).take i) ws
        rw [er]
        generalize runL ws ((rwsOf (.tuple ds)).take i) = cs at *
        refine ⟨ar, _, rfl, har, rfl, _, _, rfl, _, _, rfl, _, _, rfl, rfl, ?_⟩
        refine ⟨_, rfl, rfl, _, rfl, ?_⟩
        have hil : i1 < cs.length := by omega
        have hjl : j1 < cs.length := by omega
        by_cases hv : vz = "move"
        · refine ifT (decide_eq_true (congrArg V.str hv)) ?_
          have eb : (vz == "move") = true := beq_iff_eq.mpr hv
          rw [eb]
          refine ⟨_, rfl, _, rfl, cl, _, _, _, rfl, rfl, SqL.of h2, atI_nat (iV_at hjl), ?_⟩
          refine ⟨_, rfl, _, rfl, cl, _, _, i1, rfl, rfl, h2, ixN_nat (by rw [iV_len]; exact hil), ?_⟩
          refine ⟨_, _, _, rfl, same_mut e2 hcl, ?_⟩
          rw [upd_same, iV_set]
          rfl
        · refine ifF (decide_eq_false fun q => hv (V.str.inj q)) ?_
          have eb : (vz == "move") = false := beq_eq_false_iff_ne.mpr hv
          rw [eb]
          refine ⟨_, rfl, _, rfl, cl, _, _, _, rfl, rfl, SqL.of h2, atI_nat (iV_at hjl), ?_⟩
          refine ⟨_, rfl, _, rfl, cl, _, _, _, rfl, rfl, SqL.of h2, atI_nat (iV_at hil), ?_⟩
          refine ⟨(by show 2 ≤ sizeLine; decide), fun tp htp => ?_⟩
          have htc : tp ≠ cl := fun q => by rw [q, h2] at htp; cases htp
          refine ⟨tp, _, rfl, SqT.of upd_same, rfl, _, _, rfl, ?_⟩
          refine ⟨_, rfl, _, rfl, cl, _, _, i1, rfl, rfl, (by rw [upd_ne htc.symm]; exact h2), ixN_nat (by rw [iV_len]; exact hil), ?_⟩
          refine ⟨_, _, rfl, ?_⟩
          refine ⟨_, rfl, _, rfl, cl, _, _, j1, rfl, rfl, upd_same, ixN_nat (by rw [List.length_set, iV_len]; exact hjl), rfl, ?_⟩
          refine ⟨_, _, _, rfl, ?_, ?_⟩
          · exact same_mut (same_mut (e2.trans (same_new htp _)) hcl) hcl
          · rw [upd_same, iV_set, iV_set]
            rfl
      · rintro σ H2 ⟨o3, o4, o5, rfl, e2, h2⟩
        have hle : (rwsOf (.tuple ds)).length = xs.length := by show (ds.map rwOf).length = _; rw [List.length_map, hl]
        rw [← hle, List.take_length] at h2
        refine ⟨_, rfl, cl, _, rfl, .inl ⟨SqL.of h2, fun t ht2 => ?_⟩⟩
        exact k t _ (e.trans (e2.trans (same_new ht2 _))) (SqT.of upd_same)
end
end Lk

set_option Elab.async false
set_option linter.all false
set_option maxRecDepth 100000
set_option maxHeartbeats 4000000
namespace Lk
open PySem PySem.Spec PyProof.Rows L2
theorem seq_mid {t1 t2 : TS} {D : Ends} {σ : L2.St} {H : Hp} (I : L2.St → Hp → Prop) (hI : ∀ σ' H', I σ' H' → t2 D σ' H') (h : ∀ nx : L2.St → Hp → Prop, (∀ σ' H', I σ' H' → nx σ' H') → t1 { D with nx := nx } σ H) : tSeq t1 t2 D σ H := h _ hI
theorem next_go {D : Ends} {σ : L2.St} {H : Hp} (h : D.nx σ H) : tNext D σ H := h
/-- a feed: the numbers, the place, what is left of a great one, the mixed one, how often still -/
def Feed (K : PySem.W.Frag) (H : Hp) (l q : Addr) (ns : List Int) : Prop := ∃ (p b s c : Int), H l = some (.lst [.ref q, .int p, .int b, .int s, .int c]) ∧ SqL K (del H l) q (iV ns) ∧ 0 ≤ p ∧ 0 ≤ s ∧ s < 2147483549
def spFeed (K : PySem.W.Frag) : Sp := fun vs H Q _ => ∃ (a : Addr) (ns : List Int), vs = [.ref a] ∧ SqL K H a (iV ns) ∧ ns.length ≤ 63 ∧ ∀ (p : Addr) (H' : Hp), Same H H' → ∀ q ns, H p = none → Feed K H' p q ns → Q (.ref p) H'
def spTake (K : PySem.W.Frag) : Sp := fun vs H Q _ => ∃ (l : Addr) (m : Int) (q : Addr) (ns : List Int), vs = [.ref l, .int m] ∧ Feed K H l q ns ∧ 0 < m ∧ m < 1000000 ∧ ∀ (r : Int) (H' : Hp), 0 ≤ r → r < m → Feed K H' l q ns → Same (del H l) (del H' l) → Q (.int r) H'
section
variable {P : Program} {w : World} {K : PySem.W.Frag} {mg : Str → Option Value} {base : Heap}
theorem ok_take (T : Txt K mg) : FnOk P w K mg base CX0 1 T.f__law_take T.d__law_take ["_law_feed_here", "_law_many"] (spTake K) := by
  have nd := sc__law_take.nd
  refine T.F__law_take.ok sc__law_take (fun vs H Q E h => ?_) (fun cdv A outer s H vs Q E hr h => ?_)
  · obtain ⟨l, m, q, ns, rfl, _⟩ := h
    rfl
  obtain ⟨l, m, q, ns, rfl, ⟨p, b, s0, c, hl, hq, hp0, hs0, hs1⟩, hm, hm1, k⟩ := h
  refine ⟨_, (pss_cons (ps_if (pt_not (pt_truth (pe_ix ix_list (pv 0) pe_int (fun _ _ => rfl)) (by intro _; rfl))) (pss_one (ps_ret pe_int)) pss_nil)
      (pss_cons (ps_if (PW.pt (pw_and (pt_cmpR op_le (pe_ix ix_list (pv 0) pe_int (fun _ _ => rfl)) pe_int (nomark _)) (pw_and (pt_cmpR op_le (pe_ix ix_list (pv 0) pe_int (fun _ _ => rfl)) pe_int (nomark _)) (pw_and1 (pt_cmpR op_lt (pe_ix ix_list (pv 0) pe_int (fun _ _ => rfl)) (pe_callB call_len_seq (by rfl) T.z_len PySem.boot_len (pa_cons (pe_ix ix_list (pv 0) pe_int (fun _ _ => rfl)) pa_nil)) (nomark _)))))) (pss_cons (ps_set (i := 2) nd rfl (Or.inl rfl) (pe_ix ix_list (pe_ix ix_list (pv 0) pe_int (fun _ _ => rfl)) (pe_ix ix_list (pv 0) pe_int (fun _ _ => rfl)) (fun _ _ => rfl)))
      (pss_cons (ps_asg (pe_op op_add (pe_ix ix_list (pv 0) pe_int (fun _ _ => rfl)) pe_int) (pg_sub (pv 0) pe_int set_list))
      (pss_one (ps_if (pt_cmpR op_ge (pv 2) pe_int (nomark _)) (pss_one (ps_asg (pv 2) (pg_sub (pv 0) pe_int set_list))) (pss_cons (ps_asg (pe_op op_modN (pe_callTy call_int1 (by rfl) T.z_int (by decide +kernel) (pa_cons (pe_op op_add (pe_op op_add (pe_op op_mul (pe_ix ix_list (pv 0) pe_int (fun _ _ => rfl)) pe_int) (pe_op op_modN (pe_callTy call_int1 (by rfl) T.z_int (by decide +kernel) (pa_cons (pv 2) pa_nil)) pe_int)) pe_int) pa_nil)) pe_int) (pg_sub (pv 0) pe_int set_list))
      (pss_one (ps_asg pe_int (pg_sub (pv 0) pe_int set_list)))))))) pss_nil)
      (pss_cons (ps_if (pt_cmpR op_gt (pe_ix ix_list (pv 0) pe_int (fun _ _ => rfl)) pe_int (nomark _)) (pss_cons (ps_set (i := 3) nd rfl (Or.inl rfl) (pe_op op_modN (pe_callTy call_int1 (by rfl) T.z_int (by decide +kernel) (pa_cons (pe_ix ix_list (pv 0) pe_int (fun _ _ => rfl)) pa_nil)) (pv 1)))
      (pss_cons (ps_asg (pe_op op_fdivN (pe_ix ix_list (pv 0) pe_int (fun _ _ => rfl)) (pv 1)) (pg_sub (pv 0) pe_int set_list))
      (pss_one (ps_ret (pv 3))))) pss_nil)
      (pss_cons (ps_asg (pe_op op_sub (pe_ix ix_list (pv 0) pe_int (fun _ _ => rfl)) pe_int) (pg_sub (pv 0) pe_int set_list))
      (pss_cons (ps_asg (pe_op op_modN (pe_callTy call_int1 (by rfl) T.z_int (by decide +kernel) (pa_cons (pe_op op_add (pe_op op_mul (pe_ix ix_list (pv 0) pe_int (fun _ _ => rfl)) pe_int) pe_int) pa_nil)) pe_int) (pg_sub (pv 0) pe_int set_list))
      (pss_one (ps_ret (pe_op op_modN (pe_op op_modN (pe_callTy call_int1 (by rfl) T.z_int (by decide +kernel) (pa_cons (pe_op op_fdivN (pe_op op_mul (pe_ix ix_list (pv 0) pe_int (fun _ _ => rfl)) (pe_ix ix_list (pv 0) pe_int (fun _ _ => rfl))) pe_int) pa_nil)) pe_int) (pv 1))))))))), ?_⟩
  have hq0 : SqL K H q (iV ns) := (del_le H l).seq hq
  refine ⟨_, rfl, l, _, _, _, rfl, rfl, SqL.of hl, atI_nat (show [V.ref q, .int p, .int b, .int s0, .int c][0]? = some (V.ref q) from rfl), !(iV ns).isEmpty, .inl ⟨_, hq0, rfl⟩, ?_⟩
  cases ns with
  | nil => exact iteT (k 0 H (Int.le_refl 0) hm ⟨p, b, s0, c, hl, hq, hp0, hs0, hs1⟩ (Same.refl _))
  | cons n0 nr =>
  refine iteF ?_
  have at0 : ∀ p b s c : Int, atI [V.ref q, .int p, .int b, .int s, .int c] 0 = some (V.ref q) := fun p b s c => atI_nat (show [V.ref q, .int p, .int b, .int s, .int c][0]? = some (V.ref q) from rfl)
  have at1 : ∀ p b s c : Int, atI [V.ref q, .int p, .int b, .int s, .int c] 1 = some (V.int p) := fun p b s c => atI_nat (show [V.ref q, .int p, .int b, .int s, .int c][1]? = some (V.int p) from rfl)
  have at2 : ∀ p b s c : Int, atI [V.ref q, .int p, .int b, .int s, .int c] 2 = some (V.int b) := fun p b s c => atI_nat (show [V.ref q, .int p, .int b, .int s, .int c][2]? = some (V.int b) from rfl)
  have at3 : ∀ p b s c : Int, atI [V.ref q, .int p, .int b, .int s, .int c] 3 = some (V.int s) := fun p b s c => atI_nat (show [V.ref q, .int p, .int b, .int s, .int c][3]? = some (V.int s) from rfl)
  have at4 : ∀ p b s c : Int, atI [V.ref q, .int p, .int b, .int s, .int c] 4 = some (V.int c) := fun p b s c => atI_nat (show [V.ref q, .int p, .int b, .int s, .int c][4]? = some (V.int c) from rfl)
  refine next_go ?_
  dsimp only
  refine seq_mid (fun σ' H' => ∃ (p b s c : Int) (o2 : Option V), σ' = [some (.ref l), some (.int m), o2, none] ∧ H' l = some (.lst [.ref q, .int p, .int b, .int s, .int c]) ∧ 0 ≤ p ∧ 0 ≤ s ∧ s < 2147483549 ∧ Same (del H l) (del H' l)) ?_ ?_
  · rintro σ' H1 ⟨p, b, s0, c, o2, rfl, hl, hp0, hs0, hs1, e⟩
    refine ⟨_, rfl, l, _, _, _, rfl, rfl, SqL.of hl, at2 .., ?_⟩
    refine ⟨_, _, rfl, rfl, ?_⟩
    refine ⟨_, rfl, ?_⟩
    refine ite2 (fun c1 => ?_) (fun c1 => ?_)
    · refine ⟨_, rfl, l, _, _, _, rfl, rfl, SqL.of hl, at2 .., .inl ⟨_, rfl, ?_⟩⟩
      refine ⟨_, rfl, _, _, rfl, rfl, (by show m ≠ 0; omega), ?_⟩
      refine ⟨_, rfl, l, _, _, _, rfl, rfl, SqL.of hl, at2 .., ?_⟩
      refine ⟨_, rfl, _, _, rfl, rfl, ⟨by omega, by omega⟩, ?_⟩
      refine ⟨_, rfl, l, _, _, 2, rfl, rfl, hl, rfl, ?_⟩
      refine ⟨_, rfl, k _ _ (Int.fmod_nonneg_of_pos _ hm) (Int.fmod_lt_of_pos _ hm) ⟨p, _, s0, c, upd_same, ?_, hp0, hs0, hs1⟩ ?_⟩
      · rw [del_upd]; exact e.seq hq
      · rw [del_upd]; exact e
    · refine ⟨_, rfl, l, _, _, _, rfl, rfl, SqL.of hl, at4 .., ?_⟩
      refine ⟨_, _, rfl, rfl, ?_⟩
      refine ⟨_, rfl, l, _, _, 4, rfl, rfl, hl, rfl, ?_⟩
      refine ⟨_, rfl, l, _, _, _, rfl, rfl, SqL.of upd_same, at3 .., ?_⟩
      refine ⟨_, _, rfl, rfl, .inr ⟨by decide, by decide⟩, ?_⟩
      refine ⟨_, _, rfl, rfl, .inl ⟨_, rfl, ?_⟩⟩
      refine ⟨_, _, rfl, rfl, (by intro z; cases z), ?_⟩
      refine ⟨_, rfl, l, _, _, 3, rfl, rfl, upd_same, rfl, ?_⟩
      rw [upd_upd]
      have b0 := Int.fmod_nonneg_of_pos (s0 * 61743 + 3331) (show (0 : Int) < 2147483549 by decide)
      have b1 := Int.fmod_lt_of_pos (s0 * 61743 + 3331) (show (0 : Int) < 2147483549 by decide)
      refine ⟨_, rfl, l, _, _, _, rfl, rfl, SqL.of upd_same, at3 .., ?_⟩
      refine ⟨_, rfl, l, _, _, _, rfl, rfl, SqL.of upd_same, at3 .., ?_⟩
      refine ⟨_, _, rfl, rfl, .inr ⟨by omega, by omega⟩, ?_⟩
      refine ⟨_, _, rfl, rfl, ⟨by decide, by decide⟩, .inl ⟨_, rfl, ?_⟩⟩
      refine ⟨_, _, rfl, rfl, (by intro z; cases z), ?_⟩
      refine ⟨_, rfl, _, _, rfl, rfl, (by show m ≠ 0; omega), ?_⟩
      refine k _ _ (Int.fmod_nonneg_of_pos _ hm) (Int.fmod_lt_of_pos _ hm) ⟨p, b, _, _, upd_same, ?_, hp0, b0, b1⟩ ?_
      · rw [del_upd]; exact e.seq hq
      · rw [del_upd]; exact e
  · intro nx hnx
    refine ⟨_, rfl, l, _, _, _, rfl, rfl, SqL.of hl, at2 .., ?_⟩
    refine ⟨_, _, rfl, rfl, ?_⟩
    refine ⟨_, rfl, ?_⟩
    have stay : nx [some (.ref l), some (.int m), none, none] H := hnx _ _ ⟨p, b, s0, c, none, rfl, hl, hp0, hs0, hs1, Same.refl _⟩
    refine ite2 (fun c1 => ?_) (fun c1 => stay)
    refine ⟨_, rfl, l, _, _, _, rfl, rfl, SqL.of hl, at4 .., ?_⟩
    refine ⟨_, _, rfl, rfl, ?_⟩
    refine ⟨_, rfl, ?_⟩
    refine ite2 (fun c2 => ?_) (fun c2 => stay)
    refine ⟨_, rfl, l, _, _, _, rfl, rfl, SqL.of hl, at1 .., ?_⟩
    refine ⟨_, rfl, l, _, _, _, rfl, rfl, SqL.of hl, at0 .., q, _, rfl, .inl hq0, ?_⟩
    refine ⟨_, _, rfl, rfl, ?_⟩
    refine ⟨_, rfl, ?_⟩
    refine ite2 (fun c3 => ?_) (fun c3 => stay)
    have c3' : p < ((iV (n0 :: nr)).length : Int) := of_decide_eq_true c3
    rw [iV_len] at c3'
    obtain ⟨j, rfl⟩ := Int.eq_ofNat_of_zero_le hp0
    have hj : j < (n0 :: nr).length := by omega
    refine ⟨_, rfl, l, _, _, _, rfl, rfl, SqL.of hl, at0 .., ?_⟩
    refine ⟨_, rfl, l, _, _, _, rfl, rfl, SqL.of hl, at1 .., ?_⟩
    refine ⟨q, _, _, _, rfl, rfl, hq0, atI_nat (iV_at hj), ?_⟩
    refine ⟨_, rfl, l, _, _, _, rfl, rfl, SqL.of hl, at1 .., ?_⟩
    refine ⟨_, _, rfl, rfl, ?_⟩
    refine ⟨_, rfl, l, _, _, 1, rfl, rfl, hl, rfl, ?_⟩
    have hl1 : (upd H l (.lst ([V.ref q, .int (j : Int), .int b, .int s0, .int c].set 1 (.int ((j : Int) + 1))))) l = some (.lst [V.ref q, .int ((j : Int) + 1), .int b, .int s0, .int c]) := upd_same
    have eS : ∀ o, Same (del H l) (del (upd H l o) l) := fun o => same_eq (del_upd _ _ _).symm
    refine ⟨_, rfl, _, _, rfl, rfl, _, rfl, ?_⟩
    refine ite2 (fun c4 => ?_) (fun c4 => ?_)
    · refine ⟨_, rfl, _, rfl, l, _, _, 2, rfl, rfl, hl1, rfl, ?_⟩
      rw [upd_upd]
      exact hnx _ _ ⟨_, _, _, _, _, rfl, upd_same, by omega, hs0, hs1, eS _⟩
    · refine ⟨_, rfl, l, _, _, _, rfl, rfl, SqL.of hl1, at3 .., ?_⟩
      refine ⟨_, _, rfl, rfl, .inr ⟨by decide, by decide⟩, ?_⟩
      refine ⟨_, rfl, .inl ⟨_, rfl, ?_⟩⟩
      refine ⟨_, _, rfl, rfl, (by intro z; cases z), ?_⟩
      refine ⟨_, _, rfl, rfl, ?_⟩
      refine ⟨_, _, rfl, rfl, .inl ⟨_, rfl, ?_⟩⟩
      refine ⟨_, _, rfl, rfl, (by intro z; cases z), ?_⟩
      refine ⟨_, rfl, l, _, _, 3, rfl, rfl, hl1, rfl, ?_⟩
      refine ⟨_, rfl, l, _, _, 4, rfl, rfl, upd_same, rfl, ?_⟩
      rw [upd_upd, upd_upd]
      exact hnx _ _ ⟨_, _, _, _, _, rfl, upd_same, by omega, Int.fmod_nonneg_of_pos _ (by decide), Int.fmod_lt_of_pos _ (by decide), eS _⟩
end
end Lk

set_option Elab.async false
set_option linter.all false
set_option maxRecDepth 100000
set_option maxHeartbeats 4000000
namespace Lk
open PySem PySem.Spec PyProof.Rows L2
section
variable {P : Program} {w : World} {K : PySem.W.Frag} {mg : Str → Option Value} {base : Heap}
theorem ok_feed (T : Txt K mg) : FnOk P w K mg base CX0 1 T.f__law_feed T.d__law_feed ["_law_script"] (spFeed K) := by
  have nd := sc__law_feed.nd
  refine T.F__law_feed.ok sc__law_feed (fun vs H Q E h => ?_) (fun cdv A outer s H vs Q E hr h => ?_)
  · obtain ⟨a, ns, rfl, _⟩ := h
    rfl
  obtain ⟨a, ns, rfl, hS, h63, k⟩ := h
  refine ⟨_, (pss_one (ps_ret (pe_lst (pa_cons (pe_lc (own := [("_law_cell", 1)]) (g := gName 1) (tt := tYes) (by rfl) nd (pi_list (pv 0)) (blkOk_by (own := [("_law_cell", 1)]) (N := sl__law_feed) (sc := defScope s__law_feed) (by decide +kernel)) (fun _ _ _ _ _ => pg_name (i := 1) nd rfl (Or.inl rfl)) (fun _ _ _ _ _ => pts_nil) (fun _ _ _ _ _ => (pe_callTy call_int1 (by rfl) T.z_int (by decide +kernel) (pa_cons (pv 1) pa_nil)))) (pa_cons pe_int (pa_cons pe_int (pa_cons pe_int (pa_cons pe_int pa_nil)))))))), ?_⟩
  refine ⟨_, rfl, a, rfl, ⟨_, hS⟩, fun D hD => ?_⟩
  refine lc_it (walk_list (K := K) (a := a) (xs := iV ns)) (fun i H' => Same H H' ∧ H' D = some (.lst (iV (ns.take i)))) ?_ ?_ ?_ ?_
  · exact ⟨same_new hD _, upd_same⟩
  · rintro i H' _ ⟨e, _⟩
    exact e.seq hS
  · rintro i z H1 H2 hi ⟨e, hDl⟩ ⟨rfl, hz⟩
    rw [iV_len] at hi
    rw [iV_at hi] at hz
    cases hz
    refine ⟨rfl, ?_⟩
    refine ⟨_, rfl, .inl ⟨_, rfl, ?_⟩⟩
    refine ⟨_, hDl, (by rw [iV_len, List.length_take]; exact szl (by omega)), same_mut e hD, ?_⟩
    rw [upd_same, List.take_succ, List.getElem?_eq_getElem hi]
    have : iV (ns.take i ++ [ns[i]]) = iV (ns.take i) ++ [V.int (ns.getD i 0)] := by
      rw [List.getD_eq_getElem?_getD, List.getElem?_eq_getElem hi]
      exact List.map_append ..
    rw [← this]; rfl
  · rintro H1 ⟨e, hDl⟩
    rw [iV_len, List.take_length] at hDl
    refine ⟨(by show 5 ≤ sizeLine; decide), fun p hp => ?_⟩
    have hDp : D ≠ p := fun z => by rw [z, hp] at hDl; cases hDl
    refine k p _ (e.trans (same_new hp _)) D ns (none_of e hp) ⟨0, 0, 5501, 0, upd_same, SqL.of ?_, by decide, by decide, by decide⟩
    rw [del_ne hDp, upd_ne hDp]
    exact hDl
end
end Lk

set_option Elab.async false
set_option linter.all false
set_option maxRecDepth 100000
set_option maxHeartbeats 4000000
namespace Lk
open PySem PySem.Spec PyProof.Rows L2
def spRun (K : PySem.W.Frag) : Sp := fun vs H Q _ => ∃ (x : V) (d : PyData) (b : Addr) (ws : List Int), vs = [x, .ref b] ∧ Dp K H x d ∧ SqT K H b (iV ws) ∧ isMvs ws.length d = true ∧ ∀ p H', Same H H' → SqT K H' p (iV (runL ws (rwsOf d))) → Q (.ref p) H'
section
variable {P : Program} {w : World} {K : PySem.W.Frag} {mg : Str → Option Value} {base : Heap}
theorem verbs_two {z : Str} (h : (z == "move" || z == "swap") = true) : (z = "swap" ∧ (z == "move") = false) ∨ (z ≠ "swap" ∧ (z == "move") = true) := by
  by_cases c : z = "swap"
  · exact .inl ⟨c, by rw [c]; decide +kernel⟩
  · refine .inr ⟨c, ?_⟩
    rcases Bool.or_eq_true_iff.mp h with h | h
    · exact h
    · exact absurd (beq_iff_eq.mp h) c
theorem ok_run (T : Txt K mg) : FnOk P w K mg base CX0 1 T.f__law_run T.d__law_run ["_law_made", "_law_held"] (spRun K) := by
  have nd := sc__law_run.nd
  refine T.F__law_run.ok sc__law_run (fun vs H Q E h => ?_) (fun cdv A outer s H vs Q E hr h => ?_)
  · obtain ⟨x, d, b, ws, rfl, _⟩ := h
    rfl
  obtain ⟨x, d, b, ws, rfl, hd, hb, hm, k⟩ := h
  refine ⟨_, (pss_cons (ps_set (i := 2) nd rfl (Or.inl rfl) (pe_callTy call_list_of (by rfl) T.z_list (by decide +kernel) (pa_cons (pv 1) pa_nil)))
      (pss_cons (ps_for PassesOwn.never rfl (pi_tup (pv 0)) (pg_name (i := 3) nd rfl (Or.inl rfl))
      (pss_cons (ps_set (i := 4) nd rfl (Or.inl rfl) (pe_ix ix_list (pv 2) (pe_ix ix_tup (pv 3) pe_int (fun _ _ => rfl)) (fun _ _ => rfl)))
      (pss_cons (ps_asg (pe_ix ix_list (pv 2) (pe_ix ix_tup (pv 3) pe_int (fun _ _ => rfl)) (fun _ _ => rfl)) (pg_sub (pv 2) (pe_ix ix_tup (pv 3) pe_int (fun _ _ => rfl)) set_list))
      (pss_one (ps_if (pt_cmpR op_eq (pe_ix ix_tup (pv 3) pe_int (fun _ _ => rfl)) pe_str (nomark _)) (pss_one (ps_asg (pv 4) (pg_sub (pv 2) (pe_ix ix_tup (pv 3) pe_int (fun _ _ => rfl)) set_list))) pss_nil)))))
      (pss_one (ps_ret (pe_callTy call_tuple_of (by rfl) T.z_tuple (by decide +kernel) (pa_cons (pv 2) pa_nil)))))), ?_⟩
  refine ⟨_, rfl, b, _, rfl, .inr hb, fun cl hcl => ?_⟩
  cases hd with
  | non => cases hm
  | bl b => cases hm
  | int i => cases hm
  | str z => cases hm
  | lst h a => cases hm
  | @tup a xs ds ha hx =>
    have hl := dp_len hx
    have hm' : ds.all (isMv ws.length) = true := hm
    have e0 := same_new hcl (.lst (iV ws))
    refine ⟨_, rfl, a, rfl, ⟨_, seqT_same e0 ha⟩, ?_⟩
    refine for_tup (K := K) (a := a) (xs := xs) (fun i σ H' => ∃ (o3 o4 : Option V), σ = [some (.ref a), some (.ref b), some (.ref cl), o3, o4] ∧ Same H H' ∧ H' cl = some (.lst (iV (runL ws ((rwsOf (.tuple ds)).take i))))) ?_ ?_ ?_ ?_
    · exact ⟨none, none, rfl, e0, upd_same⟩
    · rintro i σ H' _ ⟨o3, o4, _, e', _⟩
      exact seqT_same e' ha
    · rintro i z σ H2 hiz ⟨o3, o4, rfl, e2, h2⟩
      obtain ⟨d3, _, hdi, hdz⟩ := dp_get hx hiz
      obtain ⟨ar, vz, i1, j1, rfl, rfl, har, hvz, hi1, hj1⟩ := mv_of (dp_same e2 hdz) (List.all_eq_true.mp hm' _ (List.mem_of_getElem? hdi))
      have hrw : (rwsOf (.tuple ds))[i]? = some (vz == "move", (i1 : Int), (j1 : Int)) := by
        show (ds.map rwOf)[i]? = _
        rw [List.getElem?_map, hdi]; rfl
      have er : runL ws ((rwsOf (.tuple ds)).take (i + 1)) = appL (runL ws ((rwsOf (.tuple ds)).take i)) (vz == "move", (i1 : Int), (j1 : Int)) := by
        rw [List.take_succ, hrw]
        exact List.foldl_append ..
      have hlen := runL_len ((rwsOf (.tuple ds)).take i) ws
      rw [er]
      generalize runL ws ((rwsOf (.tuple ds)).take i) = cs at *
      have hil : i1 < cs.length := by omega
      have hjl : j1 < cs.length := by omega
      have hp0 : atI [V.str vz, .int i1, .int j1] 0 = some (V.str vz) := atI_nat (show [V.str vz, .int i1, .int j1][0]? = some (V.str vz) from rfl)
      have hp1 : atI [V.str vz, .int i1, .int j1] 1 = some (V.int i1) := atI_nat (show [V.str vz, .int i1, .int j1][1]? = some (V.int i1) from rfl)
      have hp2 : atI [V.str vz, .int i1, .int j1] 2 = some (V.int j1) := atI_nat (show [V.str vz, .int i1, .int j1][2]? = some (V.int j1) from rfl)
      have har2 : ∀ ys : List V, SqT K (upd H2 cl (.lst ys)) ar [V.str vz, .int i1, .int j1] := fun ys => by
        have q := seqT_off har h2
        have e := del_le (upd H2 cl (.lst ys)) cl
        rw [del_upd] at e
        exact seqT_same e q
      refine ⟨_, rfl, _, rfl, ar, _, _, _, rfl, rfl, har, hp1, ?_⟩
      refine ⟨cl, _, _, _, rfl, rfl, SqL.of h2, atI_nat (iV_at hil), ?_⟩
      refine ⟨_, rfl, _, rfl, ar, _, _, _, rfl, rfl, har, hp2, ?_⟩
      refine ⟨cl, _, _, _, rfl, rfl, SqL.of h2, atI_nat (iV_at hjl), ?_⟩
      refine ⟨_, rfl, _, rfl, ar, _, _, _, rfl, rfl, har, hp1, ?_⟩
      refine ⟨cl, _, _, i1, rfl, rfl, h2, ixN_nat (by rw [iV_len]; exact hil), ?_⟩
      refine ⟨_, rfl, ar, _, _, _, rfl, rfl, har2 _, hp0, rfl, _, rfl, ?_⟩
      rcases verbs_two hvz with ⟨c, eb⟩ | ⟨c, eb⟩
      · refine ifT (decide_eq_true (congrArg V.str c)) ?_
        rw [eb]
        refine ⟨_, rfl, _, rfl, _, rfl, ar, _, _, _, rfl, rfl, har2 _, hp2, ?_⟩
        refine ⟨cl, _, _, j1, rfl, rfl, upd_same, ixN_nat (by rw [List.length_set, iV_len]; exact hjl), ?_⟩
        refine ⟨_, _, rfl, same_mut (same_mut e2 hcl) hcl, ?_⟩
        rw [upd_same, iV_set, iV_set]
        rfl
      · refine ifF (decide_eq_false fun q => c (V.str.inj q)) ?_
        rw [eb]
        refine ⟨_, _, rfl, same_mut e2 hcl, ?_⟩
        rw [upd_same, iV_set]
        rfl
    · rintro σ H2 ⟨o3, o4, rfl, e2, h2⟩
      have hle : (rwsOf (.tuple ds)).length = xs.length := by show (ds.map rwOf).length = _; rw [List.length_map, hl]
      rw [← hle, List.take_length] at h2
      refine ⟨_, rfl, cl, _, rfl, .inl ⟨SqL.of h2, fun t ht2 => ?_⟩⟩
      exact k t _ (e2.trans (same_new ht2 _)) (SqT.of upd_same)
end
end Lk

set_option Elab.async false
set_option linter.all false
set_option maxRecDepth 100000
set_option maxHeartbeats 4000000
namespace Lk
open PySem PySem.Spec PyProof.Rows L2
def did (L : List Pr) (held now : List Int) : Bool := L.all fun p => decide (now.getD p.1.toNat 0 = held.getD p.2.toNat 0)
def spDid (K : PySem.W.Frag) : Sp := fun vs H Q _ => ∃ (x : V) (d : PyData) (b c : Addr) (held now : List Int), vs = [x, .ref b, .ref c] ∧ Dp K H x d ∧ isT d = true ∧ SqT K H b (iV held) ∧ SqT K H c (iV now) ∧
  (∀ p ∈ prsOf d, p.1.toNat < now.length ∧ p.2.toNat < held.length) ∧ Q (.bl (did (prsOf d) held now)) H
section
variable {P : Program} {w : World} {K : PySem.W.Frag} {mg : Str → Option Value} {base : Heap}
theorem ok_did (T : Txt K mg) : FnOk P w K mg base CX0 1 T.f__law_did T.d__law_did ["_law_got", "_law_held", "_law_now"] (spDid K) := by
  have nd := sc__law_did.nd
  refine T.F__law_did.ok sc__law_did (fun vs H Q E h => ?_) (fun cdv A outer s H vs Q E hr h => ?_)
  · obtain ⟨x, d, b, c, held, now, rfl, _⟩ := h
    rfl
  obtain ⟨x, d, b, c, held, now, rfl, hd, hT, hb, hc, hin, k⟩ := h
  refine ⟨_, (pss_cons (ps_for PassesOwn.never rfl (pi_tup (pv 0)) (pg_name (i := 3) nd rfl (Or.inl rfl))
      (pss_one (ps_if (pt_cmpR op_ne (pe_ix ix_tup (pv 2) (pe_ix ix_tup (pv 3) pe_int (fun _ _ => rfl)) (fun _ _ => rfl)) (pe_ix ix_tup (pv 1) (pe_ix ix_tup (pv 3) pe_int (fun _ _ => rfl)) (fun _ _ => rfl)) (nomark _)) (pss_one (ps_ret pe_bl)) pss_nil)))
      (pss_one (ps_ret pe_bl))), ?_⟩
  obtain ⟨a, xs, ds, rfl, rfl, ha, hx, hall, hasc⟩ := isT_tup hd hT
  have hl := dp_len hx
  have hle : (prsOf (.tuple ds)).length = xs.length := by show (ds.map _).length = _; rw [List.length_map, hl]
  refine ⟨_, rfl, a, rfl, ⟨_, ha⟩, ?_⟩
  refine for_tup (K := K) (a := a) (xs := xs) (fun i σ H' => ∃ (o3 : Option V), σ = [some (.ref a), some (.ref b), some (.ref c), o3] ∧ H' = H ∧ did ((prsOf (.tuple ds)).take i) held now = true) ?_ ?_ ?_ ?_
  · exact ⟨none, rfl, rfl, rfl⟩
  · rintro i σ H' _ ⟨o3, _, rfl, _⟩
    exact ha
  · rintro i z σ H2 hiz ⟨o3, rfl, rfl, h2⟩
    obtain ⟨d3, _, hdi, hdz⟩ := dp_get hx hiz
    obtain ⟨ar, i1, j1, rfl, rfl, har, hi0, hj0⟩ := pr_of hdz (hall _ (List.mem_of_getElem? hdi))
    have hpi : (prsOf (.tuple ds))[i]? = some (i1, j1) := by
      show (ds.map _)[i]? = _
      rw [List.getElem?_map, hdi]; rfl
    obtain ⟨l1, l2⟩ := hin _ (List.mem_of_getElem? hpi)
    obtain ⟨m1, rfl⟩ := Int.eq_ofNat_of_zero_le hi0
    obtain ⟨m2, rfl⟩ := Int.eq_ofNat_of_zero_le hj0
    have hp0 : atI [V.int m1, .int m2] 0 = some (V.int m1) := atI_nat (show [V.int m1, .int m2][0]? = some (V.int m1) from rfl)
    have hp1 : atI [V.int m1, .int m2] 1 = some (V.int m2) := atI_nat (show [V.int m1, .int m2][1]? = some (V.int m2) from rfl)
    refine ⟨_, rfl, _, rfl, ar, _, _, _, rfl, rfl, har, hp0, ?_⟩
    refine ⟨c, _, _, _, rfl, rfl, hc, atI_nat (iV_at l1), ?_⟩
    refine ⟨_, rfl, _, rfl, ar, _, _, _, rfl, rfl, har, hp1, ?_⟩
    refine ⟨b, _, _, _, rfl, rfl, hb, atI_nat (iV_at l2), ?_⟩
    refine ⟨rfl, _, rfl, ?_⟩
    by_cases e : now.getD m1 0 = held.getD m2 0
    · refine ifF (ne_f e) ?_
      refine ⟨_, rfl, rfl, ?_⟩
      rw [List.take_succ, hpi]
      show List.all (_ ++ [((m1 : Int), (m2 : Int))]) _ = true
      rw [List.all_append, show List.all ((prsOf (.tuple ds)).take i) _ = true from h2]
      show (true && (decide (now.getD m1 0 = held.getD m2 0) && true)) = true
      rw [decide_eq_true e]; rfl
    · refine ifT (ne_t e) ?_
      have : did (prsOf (.tuple ds)) held now = false := by
        rw [Bool.eq_false_iff]
        intro q
        exact e (of_decide_eq_true (List.all_eq_true.mp q _ (List.mem_of_getElem? hpi)))
      rw [this] at k
      exact k
  · rintro σ H2 ⟨o3, rfl, rfl, h2⟩
    rw [← hle, List.take_length] at h2
    rw [h2] at k
    exact k
end
end Lk

set_option Elab.async false
set_option linter.all false
set_option maxRecDepth 100000
set_option maxHeartbeats 4000000
namespace Lk
open PySem PySem.Spec PyProof.Rows L2 L2H HotX
/-- flat enough, no list, no dict, no None -/
def plainD : Nat → PyData → Bool
  | 0, _ => false
  | n + 1, .tuple ds => decide (ds.length ≤ 100000) && ds.all (plainD n)
  | _ + 1, .bool _ => true
  | _ + 1, .int _ => true
  | _ + 1, .str _ => true
  | _ + 1, _ => false
theorem tup_inv {K : PySem.W.Frag} {H : Hp} {x : V} {ds : List PyData} (h : Dp K H x (.tuple ds)) : ∃ (a : Addr) (xs : List V), x = .ref a ∧ SqT K H a xs ∧ DpAll K H xs ds := by
  cases h with
  | tup h a => exact ⟨_, _, rfl, h, a⟩
theorem dp_nth {K : PySem.W.Frag} {H : Hp} {xs : List V} {ds : List PyData} {i : Nat} (h : DpAll K H xs ds) (hi : i < ds.length) : ∃ v, xs[i]? = some v ∧ Dp K H v ds[i] := by
  have hl := dp_len h
  have h2 : i < xs.length := by omega
  obtain ⟨d, _, e, q⟩ := dp_get h (List.getElem?_eq_getElem h2)
  rw [List.getElem?_eq_getElem hi] at e
  obtain rfl := Option.some.inj e
  exact ⟨_, List.getElem?_eq_getElem h2, q⟩
def spSame (n : Nat) (K : PySem.W.Frag) : Sp := fun vs H Q _ => ∃ (x y : V) (d : PyData), vs = [x, y] ∧ Dp K H x d ∧ Dp K H y d ∧ plainD n d = true ∧ Q (.bl true) H
/-- the exception that is handed on -/
def spRefusal (C : Addr) (p : Addr × Obj) : Sp := fun vs H Q _ => ∃ (d : Addr) (n : Str), vs = [.ref p.1, .str n] ∧ Zc (.ref C) (some d) p.2 ∧ (∃ ws, p.2.data = .fields ws) ∧ H d = some (.xd [("at", .int (-1)), ("word", .str n)]) ∧
  ∀ H', Same H H' → Q (.bl true) H'
section
variable {P : Program} {w : World} {K : PySem.W.Frag} {mg : Str → Option Value} {base : Heap}

theorem step_same (T : Txt K mg) (n : Nat) (G__law_same : FnOk P w K mg base CX0 (n + 1) T.f__law_same T.d__law_same ["_law_got", "_law_due"] (spSame n K)) : FnOk P w K mg base CX0 (n + 2) T.f__law_same T.d__law_same ["_law_got", "_law_due"] (spSame (n + 1) K) := by
  have nd := sc__law_same.nd
  refine T.F__law_same.ok sc__law_same (fun vs H Q E h => ?_) (fun cdv A outer s H vs Q E hr h => ?_)
  · obtain ⟨x, y, d, rfl, _⟩ := h
    rfl
  obtain ⟨x, y, d, rfl, hx, hy, pl, k⟩ := h
  have hr__law_same := hr
  refine ⟨_, (pss_cons (ps_if (pt_val (pe_callB call_isi (by rfl) T.z_isinstance (by decide +kernel) (pa_cons (pv 1) (pa_cons (pe_bltn (v := .ty "tuple") rfl T.z_tuple (by decide +kernel) rfl) pa_nil)))) (pss_cons (ps_if (PW.pt (pw_or (pt_not (pt_val (pe_callB call_isi (by rfl) T.z_isinstance (by decide +kernel) (pa_cons (pv 0) (pa_cons (pe_bltn (v := .ty "tuple") rfl T.z_tuple (by decide +kernel) rfl) pa_nil))))) (pw_or1 (pt_cmpR op_ne (pe_callB call_len_seq (by rfl) T.z_len PySem.boot_len (pa_cons (pv 0) pa_nil)) (pe_callB call_len_seq (by rfl) T.z_len PySem.boot_len (pa_cons (pv 1) pa_nil)) (nomark _))))) (pss_one (ps_ret pe_bl)) pss_nil)
      (pss_cons (ps_for PassesOwn.never rfl (pi_range1 (by rfl) T.z_range (pa_cons (pe_callB call_len_seq (by rfl) T.z_len PySem.boot_len (pa_cons (pv 1) pa_nil)) pa_nil)) (pg_name (i := 2) nd rfl (Or.inl rfl))
      (pss_one (ps_if (pt_not (pt_val (pe_call G__law_same hr__law_same rfl T.m__law_same T.k__law_same T.b__law_same .nil pass0 (pa_cons (pe_ix ix_tup (pv 0) (pv 2) (fun _ _ => rfl)) (pa_cons (pe_ix ix_tup (pv 1) (pv 2) (fun _ _ => rfl)) pa_nil))))) (pss_one (ps_ret pe_bl)) pss_nil)))
      (pss_one (ps_ret pe_bl)))) pss_nil)
      (pss_cons (ps_if (pt_val (pe_callB call_isi (by rfl) T.z_isinstance (by decide +kernel) (pa_cons (pv 1) (pa_cons (pe_bltn (v := .ty "bool") rfl T.z_bool (by decide +kernel) rfl) pa_nil)))) (pss_one (ps_ret (pe_and (pe_callB call_isi (by rfl) T.z_isinstance (by decide +kernel) (pa_cons (pv 0) (pa_cons (pe_bltn (v := .ty "bool") rfl T.z_bool (by decide +kernel) rfl) pa_nil))) (pe_one (pe_cmpR op_eq (pv 0) (pv 1) (nomark _)))))) pss_nil)
      (pss_cons (ps_if (pt_val (pe_callB call_isi (by rfl) T.z_isinstance (by decide +kernel) (pa_cons (pv 1) (pa_cons (pe_bltn (v := .ty "int") rfl T.z_int (by decide +kernel) rfl) pa_nil)))) (pss_one (ps_ret (pe_and (pe_callB call_isi (by rfl) T.z_isinstance (by decide +kernel) (pa_cons (pv 0) (pa_cons (pe_bltn (v := .ty "int") rfl T.z_int (by decide +kernel) rfl) pa_nil))) (pe_and (pe_not (pe_callB call_isi (by rfl) T.z_isinstance (by decide +kernel) (pa_cons (pv 0) (pa_cons (pe_bltn (v := .ty "bool") rfl T.z_bool (by decide +kernel) rfl) pa_nil)))) (pe_one (pe_cmpR op_eq (pv 0) (pv 1) (nomark _))))))) pss_nil)
      (pss_one (ps_ret (pe_and (pe_callB call_isi (by rfl) T.z_isinstance (by decide +kernel) (pa_cons (pv 0) (pa_cons (pe_bltn (v := .ty "str") rfl T.z_str (by decide +kernel) rfl) pa_nil))) (pe_one (pe_cmpR op_eq (pv 0) (pv 1) (nomark _))))))))), ?_⟩
  refine ⟨_, rfl, y, .ty "tuple", _, _, _, rfl, .ty "tuple", ty_of hy, kit_tup hy, _, rfl, ?_⟩
  match d, hx, hy, pl with
  | .tuple ds, hx, hy, pl =>
    obtain ⟨a, xs, rfl, ha, hxs⟩ := tup_inv hx
    obtain ⟨b, ys, rfl, hb, hys⟩ := tup_inv hy
    have l1 := dp_len hxs
    have l2 := dp_len hys
    have ps : ds.length ≤ 100000 ∧ ds.all (plainD n) = true := (Bool.and_eq_true_iff.mp (show (decide (ds.length ≤ 100000) && ds.all (plainD n)) = true from pl)).imp of_decide_eq_true id
    refine iteT ?_
    refine ⟨_, rfl, .ref a, .ty "tuple", _, _, _, rfl, .ty "tuple", ty_of hx, kit_tup hx, _, rfl, ?_⟩
    refine iteF ?_
    refine ⟨_, rfl, a, xs, rfl, .inr ha, _, rfl, b, ys, rfl, .inr hb, rfl, _, rfl, ?_⟩
    refine ifF (by rw [l1, l2]; exact ne_f rfl) ?_
    refine ⟨_, rfl, b, ys, rfl, .inr hb, (ds.length : Int), (by rw [l2]), by omega, by omega, ?_⟩
    refine for_range (lo := 0) (n := (ds.length : Int).toNat) (fun i σ H' => ∃ (o2 : Option V), σ = [some (.ref a), some (.ref b), o2] ∧ H' = H) ?_ ?_ ?_
    · exact ⟨none, rfl, rfl⟩
    · rintro i σ H2 hi ⟨o2, rfl, rfl⟩
      have hi2 : i < ds.length := by omega
      obtain ⟨u1, e1, q1⟩ := dp_nth hxs hi2
      obtain ⟨u2, e2, q2⟩ := dp_nth hys hi2
      rw [show ((0 : Int) + (i : Int)) = (i : Int) by omega]
      refine ⟨_, rfl, _, rfl, a, _, _, _, rfl, rfl, ha, atI_nat e1, _, rfl, _, rfl, b, _, _, _, rfl, rfl, hb, atI_nat e2, ?_⟩
      exact ⟨u1, u2, ds[i], rfl, q1, q2, List.all_eq_true.mp ps.2 _ (List.getElem_mem hi2), _, rfl, iteF ⟨_, rfl, rfl⟩⟩
    · rintro σ H2 ⟨o2, rfl, rfl⟩
      exact k
  | .bool b, hx, hy, pl =>
    cases hx; cases hy
    refine iteF ?_
    refine ⟨_, rfl, .bl b, .ty "bool", _, _, _, rfl, .ty "bool", ty_of (K := K) (.bl b), kit_bool (K := K) (H := H) (.bl b), _, rfl, ?_⟩
    refine iteT ?_
    refine ⟨_, rfl, .bl b, .ty "bool", _, _, _, rfl, .ty "bool", ty_of (K := K) (.bl b), kit_bool (K := K) (H := H) (.bl b), _, rfl, iteT ?_⟩
    refine ⟨_, rfl, _, rfl, rfl, ?_⟩
    rw [show decide (V.bl b = V.bl b) = true from decide_eq_true rfl]
    exact k
  | .int i, hx, hy, pl =>
    cases hx; cases hy
    refine iteF ?_
    refine ⟨_, rfl, .int i, .ty "bool", _, _, _, rfl, .ty "bool", ty_of (K := K) (.int i), kit_bool (K := K) (H := H) (.int i), _, rfl, ?_⟩
    refine iteF ?_
    refine ⟨_, rfl, .int i, .ty "int", _, _, _, rfl, .ty "int", ty_of (K := K) (.int i), kit_int (K := K) (H := H) (.int i), _, rfl, ?_⟩
    refine iteT ?_
    refine ⟨_, rfl, .int i, .ty "int", _, _, _, rfl, .ty "int", ty_of (K := K) (.int i), kit_int (K := K) (H := H) (.int i), _, rfl, iteT ?_⟩
    refine ⟨_, rfl, .int i, .ty "bool", _, _, _, rfl, .ty "bool", ty_of (K := K) (.int i), kit_bool (K := K) (H := H) (.int i), _, rfl, ?_⟩
    refine ⟨_, rfl, ?_⟩
    refine iteT ?_
    refine ⟨_, rfl, _, rfl, rfl, ?_⟩
    rw [show decide (V.int i = V.int i) = true from decide_eq_true rfl]
    exact k
  | .str z, hx, hy, pl =>
    cases hx; cases hy
    refine iteF ?_
    refine ⟨_, rfl, .str z, .ty "bool", _, _, _, rfl, .ty "bool", ty_of (K := K) (.str z), kit_bool (K := K) (H := H) (.str z), _, rfl, ?_⟩
    refine iteF ?_
    refine ⟨_, rfl, .str z, .ty "int", _, _, _, rfl, .ty "int", ty_of (K := K) (.str z), kit_int (K := K) (H := H) (.str z), _, rfl, ?_⟩
    refine iteF ?_
    refine ⟨_, rfl, .str z, .ty "str", _, _, _, rfl, .ty "str", ty_of (K := K) (.str z), kit_ty (a := "str") (b := "str") (r := true) (by decide +kernel), _, rfl, iteT ?_⟩
    refine ⟨_, rfl, _, rfl, rfl, ?_⟩
    rw [show decide (V.str z = V.str z) = true from decide_eq_true rfl]
    exact k
theorem ok_same (T : Txt K mg) : ∀ n, FnOk P w K mg base CX0 (n + 1) T.f__law_same T.d__law_same ["_law_got", "_law_due"] (spSame n K)
  | 0 => fn_vac fun vs H Q E ⟨x, y, d, _, _, _, pl, _⟩ => nomatch pl
  | n + 1 => step_same T n (ok_same T n)

theorem step_sameH (T : Txt K mg) (n : Nat) (G__law_same : FnH P w K mg base CX0 (n + 1) T.f__law_same T.d__law_same ["_law_got", "_law_due"] (spSame n K)) : FnH P w K mg base CX0 (n + 2) T.f__law_same T.d__law_same ["_law_got", "_law_due"] (spSame (n + 1) K) := by
  have nd := sc__law_same.nd
  refine okH T.F__law_same sc__law_same (fun vs H Q E h => ?_) (fun pp cdv A outer s H vs Q E hot1 hr h => ?_)
  · obtain ⟨x, y, d, rfl, _⟩ := h
    rfl
  obtain ⟨x, y, d, rfl, hx, hy, pl, k⟩ := h
  have hr__law_same := hr
  have hot : HotC (cxH CX0 P w K mg base sl__law_same "_law_same" (defScope s__law_same) T.f__law_same cdv A outer s H E pp).nox := hotOf (p := pp) hot1 List.mem_cons_self
  refine ⟨_, (pss_cons (ps_if (pt_val (pe_callB call_isi (by rfl) T.z_isinstance (by decide +kernel) (pa_cons (pv 1) (pa_cons (pe_bltn (v := .ty "tuple") rfl T.z_tuple (by decide +kernel) rfl) pa_nil)))) (pss_cons (ps_if (PW.pt (pw_or (pt_not (pt_val (pe_callB call_isi (by rfl) T.z_isinstance (by decide +kernel) (pa_cons (pv 0) (pa_cons (pe_bltn (v := .ty "tuple") rfl T.z_tuple (by decide +kernel) rfl) pa_nil))))) (pw_or1 (pt_cmpR op_ne (pe_callB call_len_seq (by rfl) T.z_len PySem.boot_len (pa_cons (pv 0) pa_nil)) (pe_callB call_len_seq (by rfl) T.z_len PySem.boot_len (pa_cons (pv 1) pa_nil)) (nomark _))))) (pss_one (ps_ret pe_bl)) pss_nil)
      (pss_cons (ps_forH PassesOwn.never hot (pi_range1H (by rfl) T.z_range (pa_cons (pe_callB call_len_seq (by rfl) T.z_len PySem.boot_len (pa_cons (pv 1) pa_nil)) pa_nil)) (pg_name (i := 2) nd rfl (Or.inl rfl))
      (pss_one (ps_if (pt_not (pt_val (pe_callH G__law_same hr__law_same hot rfl T.m__law_same T.k__law_same T.b__law_same passAt0 (pa_cons (pe_ix ix_tup (pv 0) (pv 2) (fun _ _ => rfl)) (pa_cons (pe_ix ix_tup (pv 1) (pv 2) (fun _ _ => rfl)) pa_nil))))) (pss_one (ps_ret pe_bl)) pss_nil)))
      (pss_one (ps_ret pe_bl)))) pss_nil)
      (pss_cons (ps_if (pt_val (pe_callB call_isi (by rfl) T.z_isinstance (by decide +kernel) (pa_cons (pv 1) (pa_cons (pe_bltn (v := .ty "bool") rfl T.z_bool (by decide +kernel) rfl) pa_nil)))) (pss_one (ps_ret (pe_and (pe_callB call_isi (by rfl) T.z_isinstance (by decide +kernel) (pa_cons (pv 0) (pa_cons (pe_bltn (v := .ty "bool") rfl T.z_bool (by decide +kernel) rfl) pa_nil))) (pe_one (pe_cmpR op_eq (pv 0) (pv 1) (nomark _)))))) pss_nil)
      (pss_cons (ps_if (pt_val (pe_callB call_isi (by rfl) T.z_isinstance (by decide +kernel) (pa_cons (pv 1) (pa_cons (pe_bltn (v := .ty "int") rfl T.z_int (by decide +kernel) rfl) pa_nil)))) (pss_one (ps_ret (pe_and (pe_callB call_isi (by rfl) T.z_isinstance (by decide +kernel) (pa_cons (pv 0) (pa_cons (pe_bltn (v := .ty "int") rfl T.z_int (by decide +kernel) rfl) pa_nil))) (pe_and (pe_not (pe_callB call_isi (by rfl) T.z_isinstance (by decide +kernel) (pa_cons (pv 0) (pa_cons (pe_bltn (v := .ty "bool") rfl T.z_bool (by decide +kernel) rfl) pa_nil)))) (pe_one (pe_cmpR op_eq (pv 0) (pv 1) (nomark _))))))) pss_nil)
      (pss_one (ps_ret (pe_and (pe_callB call_isi (by rfl) T.z_isinstance (by decide +kernel) (pa_cons (pv 0) (pa_cons (pe_bltn (v := .ty "str") rfl T.z_str (by decide +kernel) rfl) pa_nil))) (pe_one (pe_cmpR op_eq (pv 0) (pv 1) (nomark _))))))))), ?_⟩
  refine ⟨_, rfl, y, .ty "tuple", _, _, _, rfl, .ty "tuple", ty_of hy, kit_tup hy, _, rfl, ?_⟩
  match d, hx, hy, pl with
  | .tuple ds, hx, hy, pl =>
    obtain ⟨a, xs, rfl, ha, hxs⟩ := tup_inv hx
    obtain ⟨b, ys, rfl, hb, hys⟩ := tup_inv hy
    have l1 := dp_len hxs
    have l2 := dp_len hys
    have ps : ds.length ≤ 100000 ∧ ds.all (plainD n) = true := (Bool.and_eq_true_iff.mp (show (decide (ds.length ≤ 100000) && ds.all (plainD n)) = true from pl)).imp of_decide_eq_true id
    refine iteT ?_
    refine ⟨_, rfl, .ref a, .ty "tuple", _, _, _, rfl, .ty "tuple", ty_of hx, kit_tup hx, _, rfl, ?_⟩
    refine iteF ?_
    refine ⟨_, rfl, a, xs, rfl, .inr ha, _, rfl, b, ys, rfl, .inr hb, rfl, _, rfl, ?_⟩
    refine ifF (by rw [l1, l2]; exact ne_f rfl) ?_
    refine ⟨_, rfl, b, ys, rfl, .inr hb, (ds.length : Int), (by rw [l2]), by omega, by omega, ?_⟩
    refine for_range (lo := 0) (n := (ds.length : Int).toNat) (fun i σ H' => ∃ (o2 : Option V), σ = [some (.ref a), some (.ref b), o2] ∧ H' = H) ?_ ?_ ?_
    · exact ⟨none, rfl, rfl⟩
    · rintro i σ H2 hi ⟨o2, rfl, rfl⟩
      have hi2 : i < ds.length := by omega
      obtain ⟨u1, e1, q1⟩ := dp_nth hxs hi2
      obtain ⟨u2, e2, q2⟩ := dp_nth hys hi2
      rw [show ((0 : Int) + (i : Int)) = (i : Int) by omega]
      refine ⟨_, rfl, _, rfl, a, _, _, _, rfl, rfl, ha, atI_nat e1, _, rfl, _, rfl, b, _, _, _, rfl, rfl, hb, atI_nat e2, ?_⟩
      exact ⟨u1, u2, ds[i], rfl, q1, q2, List.all_eq_true.mp ps.2 _ (List.getElem_mem hi2), _, rfl, iteF ⟨_, rfl, rfl⟩⟩
    · rintro σ H2 ⟨o2, rfl, rfl⟩
      exact k
  | .bool b, hx, hy, pl =>
    cases hx; cases hy
    refine iteF ?_
    refine ⟨_, rfl, .bl b, .ty "bool", _, _, _, rfl, .ty "bool", ty_of (K := K) (.bl b), kit_bool (K := K) (H := H) (.bl b), _, rfl, ?_⟩
    refine iteT ?_
    refine ⟨_, rfl, .bl b, .ty "bool", _, _, _, rfl, .ty "bool", ty_of (K := K) (.bl b), kit_bool (K := K) (H := H) (.bl b), _, rfl, iteT ?_⟩
    refine ⟨_, rfl, _, rfl, rfl, ?_⟩
    rw [show decide (V.bl b = V.bl b) = true from decide_eq_true rfl]
    exact k
  | .int i, hx, hy, pl =>
    cases hx; cases hy
    refine iteF ?_
    refine ⟨_, rfl, .int i, .ty "bool", _, _, _, rfl, .ty "bool", ty_of (K := K) (.int i), kit_bool (K := K) (H := H) (.int i), _, rfl, ?_⟩
    refine iteF ?_
    refine ⟨_, rfl, .int i, .ty "int", _, _, _, rfl, .ty "int", ty_of (K := K) (.int i), kit_int (K := K) (H := H) (.int i), _, rfl, ?_⟩
    refine iteT ?_
    refine ⟨_, rfl, .int i, .ty "int", _, _, _, rfl, .ty "int", ty_of (K := K) (.int i), kit_int (K := K) (H := H) (.int i), _, rfl, iteT ?_⟩
    refine ⟨_, rfl, .int i, .ty "bool", _, _, _, rfl, .ty "bool", ty_of (K := K) (.int i), kit_bool (K := K) (H := H) (.int i), _, rfl, ?_⟩
    refine ⟨_, rfl, ?_⟩
    refine iteT ?_
    refine ⟨_, rfl, _, rfl, rfl, ?_⟩
    rw [show decide (V.int i = V.int i) = true from decide_eq_true rfl]
    exact k
  | .str z, hx, hy, pl =>
    cases hx; cases hy
    refine iteF ?_
    refine ⟨_, rfl, .str z, .ty "bool", _, _, _, rfl, .ty "bool", ty_of (K := K) (.str z), kit_bool (K := K) (H := H) (.str z), _, rfl, ?_⟩
    refine iteF ?_
    refine ⟨_, rfl, .str z, .ty "int", _, _, _, rfl, .ty "int", ty_of (K := K) (.str z), kit_int (K := K) (H := H) (.str z), _, rfl, ?_⟩
    refine iteF ?_
    refine ⟨_, rfl, .str z, .ty "str", _, _, _, rfl, .ty "str", ty_of (K := K) (.str z), kit_ty (a := "str") (b := "str") (r := true) (by decide +kernel), _, rfl, iteT ?_⟩
    refine ⟨_, rfl, _, rfl, rfl, ?_⟩
    rw [show decide (V.str z = V.str z) = true from decide_eq_true rfl]
    exact k
theorem ok_sameH (T : Txt K mg) : ∀ n, FnH P w K mg base CX0 (n + 1) T.f__law_same T.d__law_same ["_law_got", "_law_due"] (spSame n K)
  | 0 => fnH_vac fun vs H Q E ⟨x, y, d, _, _, _, pl, _⟩ => nomatch pl
  | n + 1 => step_sameH T n (ok_sameH T n)
theorem ok_refusal (T : Txt K mg) : FnP P w K mg base 5 T.f__law_refusal T.d__law_refusal ["_law_e", "_law_name"] (spRefusal T.C_NotUsable) := by
  have nd := sc__law_refusal.nd
  refine okP T.F__law_refusal sc__law_refusal (fun p vs H Q E h => ?_) (fun pp cdv A outer s H vs Q E hot1 hr h => ?_)
  · obtain ⟨d, n, rfl, _⟩ := h
    rfl
  obtain ⟨a, oe⟩ := pp
  obtain ⟨dd, n, rfl, hz, hf, hxd, k⟩ := h
  have G__law_same : FnH P w K mg base CX0 3 _ _ _ (spSame 2 K) := ok_sameH T 2
  have hr__law_same := hr.mono (show 3 ≤ 4 by omega)
  have hp : (a, oe) ∈ (cxH CX0 P w K mg base sl__law_refusal "_law_refusal" (defScope s__law_refusal) T.f__law_refusal cdv A outer s H E (a, oe)).nox.pn := List.mem_cons_self
  have hot : HotC (cxH CX0 P w K mg base sl__law_refusal "_law_refusal" (defScope s__law_refusal) T.f__law_refusal cdv A outer s H E (a, oe)).nox := hotOf (p := (a, oe)) hot1 hp
  refine ⟨_, (pss_one (ps_ret (pe_and (pe_callB (call_isP hp hz hf) (by rfl) T.z_isinstance (by decide +kernel) (pa_cons (pv 0) (pa_cons (pe_glob (v := .ref T.C_NotUsable) rfl T.mC_NotUsable rfl) pa_nil))) (pe_and (pe_callB (call_isP hp hz hf) (by rfl) T.z_isinstance (by decide +kernel) (pa_cons (pv 0) (pa_cons (pe_glob (v := .ref T.C_UnitError) rfl T.mC_UnitError rfl) pa_nil))) (pe_one (pe_callH G__law_same hr__law_same hot rfl T.m__law_same T.k__law_same T.b__law_same passAt0 (pa_cons (pe_tup (pa_cons (by exact (pe_xfP T.xf_NotUsable T.n_NotUsable_word hp hz hf (pv 0))) (pa_cons (by exact (pe_xfP T.xf_NotUsable T.n_NotUsable_at hp hz hf (pv 0))) pa_nil))) (pa_cons (pe_tup (pa_cons (pv 1) (pa_cons (pe_un un_neg pe_int) pa_nil))) pa_nil)))))))), ?_⟩
  refine ⟨_, rfl, T.C_NotUsable, dd, _, _, _, _, rfl, rfl, hxd, T.xk_NotUsable, rfl, .own _, T.is_NotUsable_NotUsable, _, rfl, iteT ?_⟩
  refine ⟨_, rfl, T.C_NotUsable, dd, _, _, _, _, rfl, rfl, hxd, T.xk_NotUsable, rfl, .own _, T.is_NotUsable_UnitError, _, rfl, iteT ?_⟩
  refine ⟨_, rfl, rfl, rfl, dd, _, _, rfl, hxd, rfl, _, rfl, rfl, rfl, dd, _, _, rfl, hxd, rfl, (by show 2 ≤ sizeLine; decide), fun p1 h1 => ?_⟩
  have s1 := same_new h1 (.tup [.str n, .int (-1)])
  refine ⟨_, rfl, _, rfl, (by show 2 ≤ sizeLine; decide), fun p2 h2 => ?_⟩
  have s2 := same_new h2 (.tup [.str n, .int (-1)])
  have dl : ∀ {H : Hp}, DpAll K H [.str n, .int (-1)] [.str n, .int (-1)] := fun {H} => .cons (.str n) (.cons (.int (-1)) .nil)
  exact ⟨_, _, .tuple [.str n, .int (-1)], rfl, .tup (SqT.of (s2 _ _ upd_same)) dl, .tup (SqT.of upd_same) dl, rfl, k _ (s1.trans s2)⟩
end
end Lk

set_option Elab.async false
set_option linter.all false
set_option maxRecDepth 100000
set_option maxHeartbeats 4000000
namespace Lk
open PySem PySem.Spec PyProof.Rows L2
def fs (ds : List PyData) (j : Nat) : Int := fstI (ds.getD j .none)
theorem ascD_iff {ds : List PyData} : ascD ds = true ↔ ∀ j, j + 1 < ds.length → fs ds j < fs ds (j + 1) := by
  unfold ascD
  rw [List.all_eq_true]
  constructor
  · intro h j hj
    have h1 : (ds.zip (ds.drop 1))[j]? = some (ds.getD j .none, ds.getD (j + 1) .none) := by
      rw [List.getElem?_zip_eq_some, List.getElem?_drop, List.getD_eq_getElem?_getD, List.getD_eq_getElem?_getD, Nat.add_comm 1 j, List.getElem?_eq_getElem (show j < ds.length by omega), List.getElem?_eq_getElem hj]
      exact ⟨rfl, rfl⟩
    exact of_decide_eq_true (h _ (List.mem_of_getElem? h1))
  · intro h p hp
    obtain ⟨j, hj⟩ := List.mem_iff_getElem?.mp hp
    obtain ⟨p1, p2⟩ := p
    rw [List.getElem?_zip_eq_some, List.getElem?_drop, Nat.add_comm 1 j] at hj
    obtain ⟨h1, h2⟩ := hj
    have h3 := (List.getElem?_eq_some_iff.mp h2).1
    have := h j h3
    unfold fs at this
    rw [List.getD_eq_getElem?_getD, List.getD_eq_getElem?_getD, show ds[j]? = some p1 from h1, show ds[j + 1]? = some p2 from h2] at this
    exact decide_eq_true this
theorem not_all {α : Type} {p : α → Bool} {l : List α} {x : α} (m : x ∈ l) (h : p x = false) : l.all p = false := by
  rw [Bool.eq_false_iff]
  intro z
  rw [List.all_eq_true.mp z x m] at h
  cases h
theorem all_take {p : PyData → Bool} {ds : List PyData} {i : Nat} {d : PyData} (h : (ds.take i).all p = true) (e : ds[i]? = some d) (q : p d = true) : (ds.take (i + 1)).all p = true := by
  rw [List.take_succ, e, List.all_append, h]
  show (true && (p d && true)) = true
  rw [q]; rfl
def spReads (K : PySem.W.Frag) : Sp := fun vs H Q _ => ∃ (x : V) (d : PyData), vs = [x] ∧ Dp K H x d ∧ tlen d ≤ 1000 ∧ Q (.bl (isT d)) H
section
variable {P : Program} {w : World} {K : PySem.W.Frag} {mg : Str → Option Value} {base : Heap}
theorem ok_reads_as (T : Txt K mg) : FnOk P w K mg base CX0 1 T.f__law_reads_as T.d__law_reads_as ["_law_x"] (spReads K) := by
  have nd := sc__law_reads_as.nd
  refine T.F__law_reads_as.ok sc__law_reads_as (fun vs H Q E h => ?_) (fun cdv A outer s H vs Q E hr h => ?_)
  · obtain ⟨x, d, rfl, _⟩ := h
    rfl
  obtain ⟨x, d, rfl, hd, htl, k⟩ := h
  refine ⟨_, (pss_cons (ps_if (pt_not (pt_val (pe_callB call_isi (by rfl) T.z_isinstance (by decide +kernel) (pa_cons (pv 0) (pa_cons (pe_bltn (v := .ty "tuple") rfl T.z_tuple (by decide +kernel) rfl) pa_nil))))) (pss_one (ps_ret pe_bl)) pss_nil)
      (pss_cons (ps_for PassesOwn.never rfl (pi_tup (pv 0)) (pg_name (i := 1) nd rfl (Or.inl rfl))
      (pss_cons (ps_if (PW.pt (pw_or (pt_not (pt_val (pe_callB call_isi (by rfl) T.z_isinstance (by decide +kernel) (pa_cons (pv 1) (pa_cons (pe_bltn (v := .ty "tuple") rfl T.z_tuple (by decide +kernel) rfl) pa_nil))))) (pw_or1 (pt_cmpR op_ne (pe_callB call_len_seq (by rfl) T.z_len PySem.boot_len (pa_cons (pv 1) pa_nil)) pe_int (nomark _))))) (pss_one (ps_ret pe_bl)) pss_nil)
      (pss_one (ps_for PassesOwn.never rfl (pi_tup (pv 1)) (pg_name (i := 2) nd rfl (Or.inl rfl))
      (pss_one (ps_if (PW.pt (pw_or (pt_not (pt_val (pe_callB call_isi (by rfl) T.z_isinstance (by decide +kernel) (pa_cons (pv 2) (pa_cons (pe_bltn (v := .ty "int") rfl T.z_int (by decide +kernel) rfl) pa_nil))))) (pw_or (pt_val (pe_callB call_isi (by rfl) T.z_isinstance (by decide +kernel) (pa_cons (pv 2) (pa_cons (pe_bltn (v := .ty "bool") rfl T.z_bool (by decide +kernel) rfl) pa_nil)))) (pw_or1 (pt_cmpR op_lt (pv 2) pe_int (nomark _)))))) (pss_one (ps_ret pe_bl)) pss_nil))))))
      (pss_cons (ps_for PassesOwn.never rfl (pi_range2 (by rfl) T.z_range (pa_cons pe_int (pa_cons (pe_callB call_len_seq (by rfl) T.z_len PySem.boot_len (pa_cons (pv 0) pa_nil)) pa_nil))) (pg_name (i := 3) nd rfl (Or.inl rfl))
      (pss_one (ps_if (pt_cmpR op_ge (pe_ix ix_tup (pe_ix ix_tup (pv 0) (pe_op op_sub (pv 3) pe_int) (fun _ _ => rfl)) pe_int (fun _ _ => rfl)) (pe_ix ix_tup (pe_ix ix_tup (pv 0) (pv 3) (fun _ _ => rfl)) pe_int (fun _ _ => rfl)) (nomark _)) (pss_one (ps_ret pe_bl)) pss_nil)))
      (pss_one (ps_ret pe_bl))))), ?_⟩
  refine ⟨_, rfl, x, .ty "tuple", _, _, _, rfl, .ty "tuple", ty_of hd, kit_tup hd, _, rfl, ?_⟩
  cases hd with
  | non => exact k
  | bl b => exact k
  | int i => exact k
  | str z => exact k
  | lst h a => exact k
  | @tup a xs ds ha hx =>
    have hl := dp_len hx
    have hz : ds.length ≤ 1000 := htl
    refine iteF ?_
    refine ⟨_, rfl, a, rfl, ⟨_, ha⟩, ?_⟩
    refine for_tup (K := K) (a := a) (xs := xs) (fun i σ H' => ∃ (o1 o2 o3 : Option V), σ = [some (.ref a), o1, o2, o3] ∧ H' = H ∧ (ds.take i).all isPr = true) ?_ ?_ ?_ ?_
    · exact ⟨none, none, none, rfl, rfl, rfl⟩
    · rintro i σ H' _ ⟨o1, o2, o3, _, rfl, _⟩
      exact ha
    · rintro i z σ H2 hiz ⟨o1, o2, o3, rfl, rfl, hal⟩
      obtain ⟨dz, mz, ez, hdz⟩ := dp_get hx hiz
      have bad : isPr dz = false → isT (.tuple ds) = false := fun q => by rw [isT_eq, not_all mz q]; rfl
      have good : isPr dz = true → (ds.take (i + 1)).all isPr = true := all_take hal ez
      refine ⟨_, rfl, z, .ty "tuple", _, _, _, rfl, .ty "tuple", ty_of hdz, kit_tup hdz, _, rfl, ?_⟩
      cases hdz with
      | non => rw [bad rfl] at k; exact k
      | bl b => rw [bad rfl] at k; exact k
      | int i => rw [bad rfl] at k; exact k
      | str z => rw [bad rfl] at k; exact k
      | lst h a => rw [bad rfl] at k; exact k
      | @tup a2 zs es ha2 hz2 =>
        have hl2 := dp_len hz2
        refine iteF ?_
        refine ⟨_, rfl, a2, zs, rfl, .inr ha2, rfl, _, rfl, ?_⟩
        match es, hz2, hl2, bad, good with
        | [d0, d1], hz2, hl2, bad, good =>
          refine ifF (ne_f (by rw [hl2]; rfl)) ?_
          obtain ⟨v0, e0, q0⟩ := dp_nth hz2 (i := 0) (by simp)
          obtain ⟨v1, e1, q1⟩ := dp_nth hz2 (i := 1) (by simp)
          refine ⟨_, rfl, a2, rfl, ⟨_, ha2⟩, ?_⟩
          refine for_tup (K := K) (a := a2) (xs := zs) (fun j σ H' => ∃ (o2 o3 : Option V), σ = [some (.ref a), some (.ref a2), o2, o3] ∧ H' = H2 ∧ ∀ m, m < j → isN ([d0, d1].getD m .none) = true) ?_ ?_ ?_ ?_
          · exact ⟨o2, o3, rfl, rfl, fun m hm => absurd hm (Nat.not_lt_zero _)⟩
          · rintro j σ H' _ ⟨_, _, _, rfl, _⟩
            exact ha2
          · rintro j y σ H3 hjy ⟨p2, p3, rfl, rfl, hj⟩
            obtain ⟨dy, my, ey, hdy⟩ := dp_get hz2 hjy
            have bad2 : isN dy = false → isT (.tuple ds) = false := fun q => bad (by
              show (isN d0 && isN d1) = false
              rcases List.mem_cons.mp my with e | m
              · rw [← e, q]; rfl
              · rw [List.mem_singleton.mp m] at q
                rw [q, Bool.and_false])
            have good2 : isN dy = true → ∀ m, m < j + 1 → isN ([d0, d1].getD m .none) = true := fun q m hm => by
              by_cases c : m = j
              · rw [c, List.getD_eq_getElem?_getD, ey]; exact q
              · exact hj m (by omega)
            refine ⟨_, rfl, y, .ty "int", _, _, _, rfl, .ty "int", ty_of hdy, kit_int hdy, _, rfl, ?_⟩
            cases hdy with
            | non => rw [bad2 rfl] at k; exact k
            | bl b =>
              refine iteF ?_
              refine ⟨_, rfl, .bl b, .ty "bool", _, _, _, rfl, .ty "bool", ty_of (K := K) (.bl b), kit_bool (K := K) (H := H3) (.bl b), _, rfl, ?_⟩
              rw [bad2 rfl] at k; exact k
            | int n =>
              refine iteF ?_
              refine ⟨_, rfl, .int n, .ty "bool", _, _, _, rfl, .ty "bool", ty_of (K := K) (.int n), kit_bool (K := K) (H := H3) (.int n), _, rfl, ?_⟩
              refine iteF ?_
              refine ⟨_, rfl, _, _, rfl, rfl, _, rfl, ?_⟩
              refine ite2 (fun c => ?_) (fun c => ?_)
              · have := of_decide_eq_true c
                rw [bad2 (decide_eq_false (by omega))] at k; exact k
              · have : ¬ n < 0 := fun z => c (decide_eq_true z)
                exact ⟨_, _, rfl, rfl, good2 (decide_eq_true (by omega))⟩
            | str z => rw [bad2 rfl] at k; exact k
            | lst h a => rw [bad2 rfl] at k; exact k
            | tup h a => rw [bad2 rfl] at k; exact k
          · rintro σ H3 ⟨p2, p3, rfl, rfl, hj⟩
            refine ⟨_, _, _, rfl, rfl, good ?_⟩
            have h0 := hj 0 (by rw [hl2]; exact Nat.succ_pos _)
            have h1 := hj 1 (by rw [hl2]; exact Nat.lt_succ_self _)
            show (isN d0 && isN d1) = true
            rw [show isN d0 = true from h0, show isN d1 = true from h1]; rfl
        | [], _, hl2, bad, good => rw [bad rfl] at k; exact ifT (ne_t (by rw [hl2]; decide)) k
        | [d0], _, hl2, bad, good => rw [bad rfl] at k; exact ifT (ne_t (by rw [hl2]; simp only [List.length_cons, List.length_nil]; omega)) k
        | d0 :: d1 :: d2 :: r, _, hl2, bad, good => rw [bad rfl] at k; exact ifT (ne_t (by rw [hl2]; simp only [List.length_cons]; omega)) k
    · rintro σ H2 ⟨o1, o2, o3, rfl, rfl, hal⟩
      rw [hl, List.take_length] at hal
      have hall : ∀ d ∈ ds, isPr d = true := fun d m => List.all_eq_true.mp hal d m
      refine ⟨_, rfl, a, xs, rfl, .inr ha, 1, (ds.length : Int), (by rw [hl]), ⟨by omega, by omega, by omega, by omega⟩, ?_⟩
      refine for_range (lo := 1) (n := ((ds.length : Int) - 1).toNat) (fun i σ H' => ∃ (o1 o2 o3 : Option V), σ = [some (.ref a), o1, o2, o3] ∧ H' = H2 ∧ ∀ j, j < i → fs ds j < fs ds (j + 1)) ?_ ?_ ?_
      · exact ⟨o1, o2, o3, rfl, rfl, fun j hj => absurd hj (Nat.not_lt_zero _)⟩
      · rintro i σ H3 hi ⟨p1, p2, p3, rfl, rfl, hj⟩
        have hi1 : i + 1 < ds.length := by omega
        obtain ⟨v1, e1, q1⟩ := dp_nth hx (i := i) (by omega)
        obtain ⟨v2, e2, q2⟩ := dp_nth hx hi1
        have g1 : ds[i] = ds.getD i .none := by rw [List.getD_eq_getElem?_getD, List.getElem?_eq_getElem (by omega)]; rfl
        have g2 : ds[i + 1] = ds.getD (i + 1) .none := by rw [List.getD_eq_getElem?_getD, List.getElem?_eq_getElem hi1]; rfl
        obtain ⟨a1, i1, j1, rfl, f1, ha1, _⟩ := pr_of q1 (hall _ (List.getElem_mem _))
        obtain ⟨a2, i2, j2, rfl, f2, ha2, _⟩ := pr_of q2 (hall _ (List.getElem_mem _))
        have k1 : fs ds i = i1 := by unfold fs; rw [← g1, f1]; rfl
        have k2 : fs ds (i + 1) = i2 := by unfold fs; rw [← g2, f2]; rfl
        have n1 : ((1 : Int) + (i : Int)) - 1 = (i : Int) := by omega
        have n2 : ((1 : Int) + (i : Int)) = ((i + 1 : Nat) : Int) := by omega
        have at1 : atI xs (((1 : Int) + (i : Int)) - 1) = some (V.ref a1) := by rw [n1]; exact atI_nat e1
        have at2 : atI xs ((1 : Int) + (i : Int)) = some (V.ref a2) := by rw [n2]; exact atI_nat e2
        refine ⟨_, rfl, _, rfl, _, _, rfl, rfl, a, _, _, _, rfl, rfl, ha, at1, a1, _, _, _, rfl, rfl, ha1, atI_nat (show [V.int i1, .int j1][0]? = some (V.int i1) from rfl), ?_⟩
        refine ⟨_, rfl, _, rfl, a, _, _, _, rfl, rfl, ha, at2, a2, _, _, _, rfl, rfl, ha2, atI_nat (show [V.int i2, .int j2][0]? = some (V.int i2) from rfl), _, _, rfl, rfl, _, rfl, ?_⟩
        refine ite2 (fun c => ?_) (fun c => ?_)
        · have := of_decide_eq_true c
          have e : isT (.tuple ds) = false := by
            rw [isT_eq]
            have : ascD ds = false := by
              rw [Bool.eq_false_iff]
              intro q
              have := ascD_iff.mp q i hi1
              omega
            rw [this, Bool.and_false]
          rw [e] at k
          exact k
        · have : ¬ i2 ≤ i1 := fun z => c (decide_eq_true z)
          refine ⟨_, _, _, rfl, rfl, fun j hj2 => ?_⟩
          by_cases c2 : j = i
          · rw [c2]; omega
          · exact hj j (by omega)
      · rintro σ H3 ⟨p1, p2, p3, rfl, rfl, hj⟩
        have e : isT (.tuple ds) = true := by
          rw [isT_eq, hal, ascD_iff.mpr fun j hj2 => hj j (by omega)]; rfl
        rw [e] at k
        exact k
end
end Lk

set_option Elab.async false
set_option linter.all false
set_option maxRecDepth 100000
set_option maxHeartbeats 4000000
namespace Lk
open PySem PySem.Spec PyProof.Rows L2
/-- what takes leave: the feed stands, all else of H is kept -/
structure Fd (K : PySem.W.Frag) (l q : Addr) (ns : List Int) (H H' : Hp) : Prop where
  feed : Feed K H' l q ns
  keep : Same (del H l) (del H' l)
section
variable {K : PySem.W.Frag} {l q p : Addr} {ns : List Int} {H H1 H2 : Hp} {o : HO}
theorem feed_ne (f : Feed K H l q ns) (h : H p = none) : p ≠ l := fun z => by
  obtain ⟨_, b, s, c, e, _⟩ := f
  rw [z, e] at h; cases h
theorem feed_mono (f : Feed K H l q ns) (e : Same H H1) : Feed K H1 l q ns := by
  obtain ⟨p, b, s, c, e1, g, r⟩ := f
  exact ⟨p, b, s, c, e _ _ e1, (same_del l e).seq g, r⟩
theorem Fd.refl (f : Feed K H l q ns) : Fd K l q ns H H := ⟨f, Same.refl _⟩
theorem Fd.grow (f : Fd K l q ns H H1) (e : Same H1 H2) : Fd K l q ns H H2 := ⟨feed_mono f.feed e, f.keep.trans (same_del l e)⟩
theorem Fd.take (f : Fd K l q ns H H1) (g : Feed K H2 l q ns) (e : Same (del H1 l) (del H2 l)) : Fd K l q ns H H2 := ⟨g, f.keep.trans e⟩
theorem Fd.trans (f : Fd K l q ns H H1) (g : Fd K l q ns H1 H2) : Fd K l q ns H H2 := ⟨g.feed, f.keep.trans g.keep⟩
/-- a list that is new since H changes -/
theorem Fd.mut (f : Fd K l q ns H H1) (g : Feed K H l q ns) (h : H p = none) : Fd K l q ns H (upd H1 p o) := by
  have hp := feed_ne g h
  have e : Same (del H l) (del (upd H1 p o) l) := fun b u z => by
    have q1 := f.keep b u z
    have hb : b ≠ l := fun w => by rw [w, del_same] at z; cases z
    have hbp : b ≠ p := fun w => by rw [w, del_ne hp, h] at z; cases z
    rw [del_ne hb] at q1 ⊢
    rw [upd_ne hbp]; exact q1
  obtain ⟨p0, b0, s0, c0, e0, g0, r0⟩ := g
  obtain ⟨p', b, s, c, e1, g1, r⟩ := f.feed
  exact ⟨⟨p', b, s, c, by rw [upd_ne hp.symm]; exact e1, e.seq g0, r⟩, e⟩
/-- a new thing stands where it stood -/
theorem Fd.at (f : Fd K l q ns H1 H2) (hp : p ≠ l) (h : H1 p = some o) : H2 p = some o := Same.off f.keep hp h
end
theorem seqIx_nat {n : Nat} {r : Int} (h0 : 0 ≤ r) (h1 : r < (n : Int)) : seqIndex? r n = some r.toNat := by
  unfold seqIndex?
  rw [if_neg (show ¬ r < 0 by omega)]
  rw [if_pos (by rw [Bool.and_eq_true_iff]; exact ⟨decide_eq_true h0, decide_eq_true h1⟩)]
theorem iV_erase : ∀ (ws : List Int) (j : Nat), (iV ws).eraseIdx j = iV (ws.eraseIdx j)
  | [], j => rfl
  | a :: r, 0 => rfl
  | a :: r, j + 1 => by
    show V.int a :: (iV r).eraseIdx j = V.int a :: iV (r.eraseIdx j)
    rw [iV_erase r j]
theorem perm_erase : ∀ (ls : List Int) (j : Nat), j < ls.length → (ls.getD j 0 :: ls.eraseIdx j).Perm ls
  | a :: r, 0, _ => List.Perm.refl _
  | a :: r, j + 1, h => by
    have i := perm_erase r j (by simpa using h)
    show (r.getD j 0 :: a :: r.eraseIdx j).Perm (a :: r)
    exact (List.Perm.swap ..).trans (i.cons a)
def spPicked (K : PySem.W.Frag) : Sp := fun vs H Q _ => ∃ (l b : Addr) (m : Int) (us : List Int) (q : Addr) (ns : List Int), vs = [.ref l, .ref b, .int m] ∧ Feed K H l q ns ∧ SqL K (del H l) b (iV us) ∧ us.length ≤ 1000 ∧ 0 ≤ m ∧ m ≤ 1000 ∧
  ∀ (p : Addr) (os : List Int) (H' : Hp), H p = none → Fd K l q ns H H' → H' p = some (.lst (iV os)) → os.length = min m.toNat us.length → (∃ rest, (os ++ rest).Perm us) → Q (.ref p) H'
section
variable {P : Program} {w : World} {K : PySem.W.Frag} {mg : Str → Option Value} {base : Heap}
theorem ok_picked (T : Txt K mg) : FnOk P w K mg base CX0 2 T.f__law_picked T.d__law_picked ["_law_feed_here", "_law_pool", "_law_many"] (spPicked K) := by
  have nd := sc__law_picked.nd
  refine T.F__law_picked.ok sc__law_picked (fun vs H Q E h => ?_) (fun cdv A outer s H vs Q E hr h => ?_)
  · obtain ⟨l, b, m, us, q, ns, rfl, _⟩ := h
    rfl
  obtain ⟨l, b, m, us, q, ns, rfl, hf, hb, hu, hm0, hm1, k⟩ := h
  have G__law_take : FnOk P w K mg base CX0 1 _ _ _ (spTake K) := ok_take T
  have hr__law_take := hr
  refine ⟨_, (pss_cons (ps_set (i := 3) nd rfl (Or.inl rfl) (pe_callTy call_list_of (by rfl) T.z_list (by decide +kernel) (pa_cons (pv 1) pa_nil)))
      (pss_cons (ps_set (i := 4) nd rfl (Or.inl rfl) (pe_lst pa_nil))
      (pss_cons (ps_for PassesOwn.never rfl (pi_range1 (by rfl) T.z_range (pa_cons (pv 2) pa_nil)) (pg_name (i := 5) nd rfl (Or.inl rfl))
      (pss_one (ps_if (pt_truth (pv 3) (by intro _; rfl)) (pss_one (ps_expr (pe_bm PySem.F.plainAttrs_list PySem.F.slot_list_append PySem.F.type_list_append mt_append (pv 4) (pa_cons (pe_bm PySem.F.plainAttrs_list PySem.F.slot_list_pop PySem.F.type_list_pop mt_popAt (pv 3) (pa_cons (pe_call G__law_take hr__law_take rfl T.m__law_take T.k__law_take T.b__law_take .nil pass0 (pa_cons (pv 0) (pa_cons (pe_callB call_len_seq (by rfl) T.z_len PySem.boot_len (pa_cons (pv 3) pa_nil)) pa_nil))) pa_nil)) pa_nil)))) pss_nil)))
      (pss_one (ps_ret (pv 4)))))), ?_⟩
  refine ⟨_, rfl, b, _, rfl, .inl ((del_le H l).seq hb), fun a1 h1 => ?_⟩
  refine ⟨(by show 0 ≤ sizeLine; decide), fun a2 h2 => ?_⟩
  have n21 : a2 ≠ a1 := fun z => by rw [z, upd_same] at h2; cases h2
  have h2' : H a2 = none := by rw [upd_ne n21] at h2; exact h2
  have nl1 := feed_ne hf h1
  have nl2 := feed_ne hf h2'
  refine ⟨_, rfl, m, rfl, by omega, by omega, ?_⟩
  refine for_range (lo := 0) (n := m.toNat) (fun i σ H' => ∃ (ls os : List Int) (o5 : Option V), σ = [some (.ref l), some (.ref b), some (.int m), some (.ref a1), some (.ref a2), o5] ∧ Fd K l q ns H H' ∧ H' a1 = some (.lst (iV ls)) ∧ H' a2 = some (.lst (iV os)) ∧
    (os ++ ls).Perm us ∧ os.length = min i us.length) ?_ ?_ ?_
  · refine ⟨us, [], none, rfl, ((Fd.refl hf).mut hf h1).mut hf h2', ?_, upd_same, List.Perm.refl _, by simp⟩
    rw [upd_ne n21.symm]; exact upd_same
  · rintro i σ H1 hi ⟨ls, os, o5, rfl, f, e1, e2, pm, lo⟩
    have lp := pm.length_eq
    rw [List.length_append] at lp
    refine ⟨_, rfl, (!(iV ls).isEmpty), .inl ⟨_, SqL.of e1, rfl⟩, ?_⟩
    cases ls with
    | nil =>
      refine iteF ?_
      exact ⟨[], os, _, rfl, f, e1, e2, pm, by simp at lp; omega⟩
    | cons c r =>
      refine iteT ?_
      refine ⟨_, rfl, .inl ⟨rfl, _, SqL.of e2⟩, _, rfl, .inl ⟨rfl, _, SqL.of e1⟩, _, rfl, _, rfl, a1, _, rfl, .inl (SqL.of e1), l, ((c :: r).length : Int), q, ns, (by rw [iV_len]; rfl), f.feed, (by simp only [List.length_cons]; omega), (by simp only [List.length_cons] at lp ⊢; omega), fun x H2 x0 x1 f2 k2 => ?_⟩
      have g2 := f.take f2 k2
      have e1' : H2 a1 = some (.lst (iV (c :: r))) := Same.off k2 nl1 e1
      have e2' : H2 a2 = some (.lst (iV os)) := Same.off k2 nl2 e2
      have xl : x.toNat < (c :: r).length := by omega
      refine ⟨a1, _, x, x.toNat, _, rfl, rfl, e1', by omega, by simp only [List.length_cons] at x1 lp; omega, seqIx_nat x0 (by rw [iV_len]; exact x1), iV_at xl, ?_⟩
      rw [iV_erase]
      refine ⟨a2, _, _, rfl, rfl, (by rw [upd_ne n21]; exact e2'), (by rw [iV_len]; exact szl (by omega)), ?_⟩
      rw [iV_app]
      refine ⟨(c :: r).eraseIdx x.toNat, os ++ [(c :: r).getD x.toNat 0], _, rfl, (g2.mut hf h1).mut hf h2', ?_, upd_same, ?_, ?_⟩
      · rw [upd_ne n21.symm]; exact upd_same
      · rw [List.append_assoc]
        exact ((perm_erase (c :: r) x.toNat xl).append_left os).trans pm
      · simp only [List.length_append, List.length_cons, List.length_nil] at lp ⊢; omega
  · rintro σ H1 ⟨ls, os, o5, rfl, f, e1, e2, pm, lo⟩
    exact ⟨_, rfl, k a2 os H1 h2' f e2 lo ⟨ls, pm⟩⟩
end
end Lk

set_option Elab.async false
set_option linter.all false
set_option maxRecDepth 100000
set_option maxHeartbeats 4000000
namespace Lk
open PySem PySem.Spec PyProof.Rows L2
def inRw (w : Int) (r : Rw) : Prop := 0 ≤ r.2.1 ∧ r.2.1 < w ∧ 0 ≤ r.2.2 ∧ r.2.2 < w
def spOther (K : PySem.W.Frag) : Sp := fun vs H Q _ => ∃ (l : Addr) (w m : Int) (q : Addr) (ns : List Int), vs = [.ref l, .int w, .int m] ∧ Feed K H l q ns ∧ 0 < w ∧ w ≤ 1000 ∧ 0 ≤ m ∧ m ≤ 1000 ∧
  ∀ (p : Addr) (R : List Rw) (H' : Hp), Fd K l q ns H H' → Dp K (del H' l) (.ref p) (rwsD R) → R.length = m.toNat → (∀ r ∈ R, inRw w r) → Q (.ref p) H'
section
variable {P : Program} {w : World} {K : PySem.W.Frag} {mg : Str → Option Value} {base : Heap}
theorem ok_other (T : Txt K mg) : FnOk P w K mg base CX0 2 T.f__law_other T.d__law_other ["_law_feed_here", "_law_wide", "_law_many"] (spOther K) := by
  have nd := sc__law_other.nd
  refine T.F__law_other.ok sc__law_other (fun vs H Q E h => ?_) (fun cdv A outer s H vs Q E hr h => ?_)
  · obtain ⟨l, wd, m, q, ns, rfl, _⟩ := h
    rfl
  obtain ⟨l, wd, m, q, ns, rfl, hf, hw0, hw1, hm0, hm1, k⟩ := h
  have G__law_take : FnOk P w K mg base CX0 1 _ _ _ (spTake K) := ok_take T
  have hr__law_take := hr
  refine ⟨_, (pss_cons (ps_set (i := 3) nd rfl (Or.inl rfl) (pe_lst pa_nil))
      (pss_cons (ps_for PassesOwn.never rfl (pi_range1 (by rfl) T.z_range (pa_cons (pv 2) pa_nil)) (pg_name (i := 4) nd rfl (Or.inl rfl))
      (pss_one (ps_expr (pe_bm PySem.F.plainAttrs_list PySem.F.slot_list_append PySem.F.type_list_append mt_append (pv 3) (pa_cons (pe_tup (pa_cons (pe_ix ix_list (pe_lst (pa_cons pe_str (pa_cons pe_str pa_nil))) (pe_call G__law_take hr__law_take rfl T.m__law_take T.k__law_take T.b__law_take .nil pass0 (pa_cons (pv 0) (pa_cons pe_int pa_nil))) (fun _ _ => rfl)) (pa_cons (pe_call G__law_take hr__law_take rfl T.m__law_take T.k__law_take T.b__law_take .nil pass0 (pa_cons (pv 0) (pa_cons (pv 1) pa_nil))) (pa_cons (pe_call G__law_take hr__law_take rfl T.m__law_take T.k__law_take T.b__law_take .nil pass0 (pa_cons (pv 0) (pa_cons (pv 1) pa_nil))) pa_nil)))) pa_nil)))))
      (pss_one (ps_ret (pe_callTy call_tuple_of (by rfl) T.z_tuple (by decide +kernel) (pa_cons (pv 3) pa_nil)))))), ?_⟩
  refine ⟨(by show 0 ≤ sizeLine; decide), fun a h1 => ?_⟩
  have nl := feed_ne hf h1
  refine ⟨_, rfl, m, rfl, by omega, by omega, ?_⟩
  refine for_range (lo := 0) (n := m.toNat) (fun i σ H' => ∃ (vs : List V) (R : List Rw) (o4 : Option V), σ = [some (.ref l), some (.int wd), some (.int m), some (.ref a), o4] ∧ Fd K l q ns H H' ∧ H' a = some (.lst vs) ∧ DpAll K (hx l a H') vs (R.map rwD) ∧
    R.length = i ∧ ∀ r ∈ R, inRw wd r) ?_ ?_ ?_
  · exact ⟨[], [], none, rfl, (Fd.refl hf).mut hf h1, upd_same, .nil, rfl, fun r m => nomatch m⟩
  · rintro i σ H1 hi ⟨vs, R, o4, rfl, f, e1, hd, hl, hR⟩
    have hvl : vs.length = i := by rw [dp_len hd, List.length_map, hl]
    refine ⟨_, rfl, .inl ⟨rfl, _, SqL.of e1⟩, (by show 2 ≤ sizeLine; decide), fun lp hlp => ?_⟩
    have f1 := f.grow (same_new hlp (.lst [.str "move", .str "swap"]))
    have nlp := feed_ne f.feed hlp
    have nla : lp ≠ a := fun z => by rw [z, e1] at hlp; cases hlp
    have elp : (upd H1 lp (.lst [.str "move", .str "swap"])) lp = some (.lst [.str "move", .str "swap"]) := upd_same
    have ea1 : (upd H1 lp (.lst [.str "move", .str "swap"])) a = some (.lst vs) := by rw [upd_ne nla.symm]; exact e1
    have x1 : Same (hx l a H1) (hx l a (upd H1 lp (.lst [.str "move", .str "swap"]))) := hx_new hlp
    generalize upd H1 lp (.lst [.str "move", .str "swap"]) = G1 at f1 elp ea1 x1 ⊢
    refine ⟨_, rfl, l, 2, q, ns, rfl, f1.feed, by omega, by omega, fun b Ga b0 b1 fa ka => ?_⟩
    have f2 := f1.take fa ka
    have hb : b = 0 ∨ b = 1 := by omega
    obtain ⟨bb, hbb⟩ : ∃ bb : Bool, atI [V.str "move", .str "swap"] b = some (V.str (vb bb)) := by
      rcases hb with e | e
      · exact ⟨true, by rw [e]; exact atI_nat (j := 0) rfl⟩
      · exact ⟨false, by rw [e]; exact atI_nat (j := 1) rfl⟩
    refine ⟨lp, _, _, _, rfl, rfl, SqL.of (Same.off ka nlp elp), hbb, ?_⟩
    refine ⟨_, rfl, _, rfl, l, wd, q, ns, rfl, f2.feed, by omega, by omega, fun c Gb c0 c1 fb kb => ?_⟩
    have f3 := f2.take fb kb
    refine ⟨_, rfl, _, rfl, l, wd, q, ns, rfl, f3.feed, by omega, by omega, fun d Gc d0 d1 fc kc => ?_⟩
    have f4 := f3.take fc kc
    have kk := (ka.trans kb).trans kc
    refine ⟨(by show 3 ≤ sizeLine; decide), fun t ht => ?_⟩
    have ea2 : Gc a = some (.lst vs) := Same.off kk nl ea1
    have nta : t ≠ a := fun z => by rw [z, ea2] at ht; cases ht
    have ntl := feed_ne f4.feed ht
    refine ⟨a, _, _, rfl, rfl, (by rw [upd_ne nta.symm]; exact ea2), szl (by omega), ?_⟩
    refine ⟨vs ++ [.ref t], R ++ [(bb, c, d)], _, rfl, (f4.grow (same_new ht _)).mut hf h1, upd_same, ?_, by rw [List.length_append, hl]; rfl, fun r mr => ?_⟩
    · rw [hx_rl, List.map_append]
      have x2 : Same (hx l a H1) (hx l a (upd Gc t (.tup [.str (vb bb), .int c, .int d]))) := (x1.trans (same_del a kk)).trans (hx_new ht)
      refine dpAll_app (dpAll_same x2 hd) (dp_row bb c d ?_)
      show del _ a t = _
      rw [del_ne nta, del_ne ntl]; exact upd_same
    · rcases List.mem_append.mp mr with m1 | m1
      · exact hR r m1
      · rw [List.mem_singleton.mp m1]; exact ⟨c0, c1, d0, d1⟩
  · rintro σ H1 ⟨vs, R, o4, rfl, f, e1, hd, hl, hR⟩
    refine ⟨_, rfl, a, _, rfl, .inl ⟨SqL.of e1, fun t ht => ?_⟩⟩
    have ntl := feed_ne f.feed ht
    refine k t R _ (f.grow (same_new ht _)) (.tup (SqT.of ?_) (dpAll_same ?_ hd)) hl hR
    · rw [del_ne ntl]; exact upd_same
    · exact (del_le (del H1 l) a).trans (same_del l (same_new ht _))
end
end Lk

set_option Elab.async false
set_option linter.all false
set_option maxRecDepth 100000
set_option maxHeartbeats 4000000
namespace Lk
open PySem PySem.Spec PyProof.Rows L2
theorem rgV_iV (n : Int) : rgV 0 n = iV ((List.range n.toNat).map fun i : Nat => (i : Int)) := by
  unfold rgV iV
  rw [List.map_map, show (n - 0).toNat = n.toNat by congr 1; omega]
  refine List.map_congr_left fun i _ => ?_
  show V.int (0 + (i : Int)) = V.int (i : Int)
  rw [Int.zero_add]
theorem rg_nodup (n : Int) : ((List.range n.toNat).map fun i : Nat => (i : Int)).Nodup := by
  exact List.Pairwise.map _ (fun a b h => fun z => h (Int.ofNat.inj z)) List.nodup_range
theorem gname_go {i : Nat} {v : V} {σ : L2.St} {H : Hp} {a c d : L2.St → Hp → Prop} {b : VK} (h : a (σ.set i (some v)) H) : gName i v σ H (Ends.mk a b c d).nx := h
def kOf (H : Hp) : V → Int × Int
  | .ref t => match H t with
    | some (.tup [.int i, .int j]) => (i, j)
    | _ => (0, 0)
  | _ => (0, 0)
theorem kOf_at {H : Hp} {t : Addr} {i j : Int} (h : H t = some (.tup [.int i, .int j])) : kOf H (.ref t) = (i, j) := by
  show (match H t with | some (.tup [.int i, .int j]) => (i, j) | _ => (0, 0)) = (i, j)
  rw [h]
theorem Fd.old {K : PySem.W.Frag} {l q p : Addr} {ns : List Int} {H G : Hp} (f : Fd K l q ns H G) (h : G p = none) : H p = none := by
  have n := feed_ne f.feed h
  cases e : H p with
  | none => rfl
  | some u =>
    have := f.keep p u (by rw [del_ne n]; exact e)
    rw [del_ne n, h] at this; cases this
theorem dpAll_of {K : PySem.W.Frag} {H : Hp} {f : V → PyData} : ∀ {ys : List V}, (∀ y ∈ ys, Dp K H y (f y)) → DpAll K H ys (ys.map f)
  | [], _ => .nil
  | y :: r, h => .cons (h y List.mem_cons_self) (dpAll_of fun z m => h z (List.mem_cons_of_mem _ m))
/-- what is drawn: the second list grows or changes -/
structure DrS (K : PySem.W.Frag) (l q : Addr) (ns : List Int) (H : Hp) (ta : Addr) (ts : List Int) (wd : Int) (fa : Addr) (fs : List Int) (H' : Hp) : Prop where
  fd : Fd K l q ns H H'
  nt : H ta = none
  nf : H fa = none
  ne : ta ≠ fa
  et : H' ta = some (.lst (iV ts))
  ef : H' fa = some (.lst (iV fs))
  len : fs.length = ts.length
  inw : ∀ x ∈ fs, 0 ≤ x ∧ x < wd
def spDrawn (K : PySem.W.Frag) : Sp := fun vs H Q _ => ∃ (l q : Addr) (ns : List Int), vs = [.ref l] ∧ Feed K H l q ns ∧
  ∀ (p : Addr) (L : List Pr) (H' : Hp), Fd K l q ns H H' → Dp K (del H' l) (.ref p) (prsD L) → (tos L).Pairwise (· < ·) → L.length ≤ 40 → (∀ r ∈ L, 0 ≤ r.1 ∧ r.1 < 200 ∧ 0 ≤ r.2 ∧ r.2 < 200) → Q (.ref p) H'
section
variable {P : Program} {w : World} {K : PySem.W.Frag} {mg : Str → Option Value} {base : Heap}
theorem mem_app_left {os rest us : List Int} (h : (os ++ rest).Perm us) {x : Int} (m : x ∈ os) : x ∈ us := h.mem_iff.mp (List.mem_append_left _ m)
theorem nodup_app_left {os rest us : List Int} (h : (os ++ rest).Perm us) (n : us.Nodup) : os.Nodup := (List.nodup_append.mp (h.nodup_iff.mpr n)).1
theorem ok_drawn (T : Txt K mg) : FnOk P w K mg base CX0 3 T.f__law_drawn T.d__law_drawn ["_law_feed_here"] (spDrawn K) := by
  have nd := sc__law_drawn.nd
  refine T.F__law_drawn.ok sc__law_drawn (fun vs H Q E h => ?_) (fun cdv A outer s H vs Q E hr h => ?_)
  · obtain ⟨l, q, ns, rfl, _⟩ := h
    rfl
  obtain ⟨l, q, ns, rfl, hf, k⟩ := h
  have G__law_take : FnOk P w K mg base CX0 1 _ _ _ (spTake K) := ok_take T
  have hr__law_take := hr.mono (show 1 ≤ 2 by omega)
  have G__law_picked : FnOk P w K mg base CX0 2 _ _ _ (spPicked K) := ok_picked T
  have hr__law_picked := hr
  refine ⟨_, (pss_cons (ps_set (i := 1) nd rfl (Or.inl rfl) (pe_call G__law_take hr__law_take rfl T.m__law_take T.k__law_take T.b__law_take .nil pass0 (pa_cons (pv 0) (pa_cons pe_int pa_nil))))
      (pss_cons (ps_set (i := 2) nd rfl (Or.inl rfl) (pe_op op_add (pe_op op_add (pv 1) (pe_call G__law_take hr__law_take rfl T.m__law_take T.k__law_take T.b__law_take .nil pass0 (pa_cons (pv 0) (pa_cons pe_int pa_nil)))) pe_int))
      (pss_cons (ps_if (pt_cmpR op_eq (pe_call G__law_take hr__law_take rfl T.m__law_take T.k__law_take T.b__law_take .nil pass0 (pa_cons (pv 0) (pa_cons pe_int pa_nil))) pe_int (nomark _)) (pss_cons (ps_set (i := 1) nd rfl (Or.inl rfl) (pe_op op_add pe_int (pe_call G__law_take hr__law_take rfl T.m__law_take T.k__law_take T.b__law_take .nil pass0 (pa_cons (pv 0) (pa_cons pe_int pa_nil)))))
      (pss_one (ps_set (i := 2) nd rfl (Or.inl rfl) pe_int))) pss_nil)
      (pss_cons (ps_set (i := 3) nd rfl (Or.inr rfl) (pe_ix ix_list (pe_lst (pa_cons pe_int (pa_cons pe_int (pa_cons pe_int pa_nil)))) (pe_call G__law_take hr__law_take rfl T.m__law_take T.k__law_take T.b__law_take .nil pass0 (pa_cons (pv 0) (pa_cons pe_int pa_nil))) (fun _ _ => rfl)))
      (pss_cons (ps_set (i := 4) nd rfl (Or.inr rfl) (pe_call G__law_picked hr__law_picked rfl T.m__law_picked T.k__law_picked T.b__law_picked .nil pass0 (pa_cons (pv 0) (pa_cons (by exact (pe_listRg (by rfl) (by rfl) T.z_list (prg_1 (by rfl) T.z_range (pv 2)))) (pa_cons (pv 1) pa_nil)))))
      (pss_cons (ps_set (i := 5) nd rfl (Or.inr rfl) (pe_call G__law_picked hr__law_picked rfl T.m__law_picked T.k__law_picked T.b__law_picked .nil pass0 (pa_cons (pv 0) (pa_cons (pv 4) (pa_cons (pe_callB call_len_seq (by rfl) T.z_len PySem.boot_len (pa_cons (pv 4) pa_nil)) pa_nil)))))
      (pss_cons (ps_set (i := 6) nd rfl (Or.inl rfl) (pe_call G__law_take hr__law_take rfl T.m__law_take T.k__law_take T.b__law_take .nil pass0 (pa_cons (pv 0) (pa_cons pe_int pa_nil))))
      (pss_cons (ps_set (i := 7) nd rfl (Or.inl rfl) (pe_callB call_len_seq (by rfl) T.z_len PySem.boot_len (pa_cons (pv 4) pa_nil)))
      (pss_cons (ps_if (pt_cmpR op_eq (pv 6) pe_int (nomark _)) (pss_one (ps_set (i := 7) nd rfl (Or.inl rfl) pe_int)) pss_nil)
      (pss_cons (ps_if (pt_cmpR op_eq (pv 6) pe_int (nomark _)) (pss_cons (ps_set (i := 7) nd rfl (Or.inl rfl) (pe_call G__law_take hr__law_take rfl T.m__law_take T.k__law_take T.b__law_take .nil pass0 (pa_cons (pv 0) (pa_cons (pe_op op_add (pe_callB call_len_seq (by rfl) T.z_len PySem.boot_len (pa_cons (pv 4) pa_nil)) pe_int) pa_nil))))
      (pss_one (ps_set (i := 5) nd rfl (Or.inr rfl) (pe_op op_cat (pe_call G__law_picked hr__law_picked rfl T.m__law_picked T.k__law_picked T.b__law_picked .nil pass0 (pa_cons (pv 0) (pa_cons (pe_slice sl_list (pv 4) po_none (po_some (pv 7))) (pa_cons (pv 7) pa_nil)))) (pe_slice sl_list (pv 4) (po_some (pv 7)) po_none))))) pss_nil)
      (pss_cons (ps_for PassesOwn.never rfl (pi_range2 (by rfl) T.z_range (pa_cons (pv 7) (pa_cons (pe_callB call_len_seq (by rfl) T.z_len PySem.boot_len (pa_cons (pv 4) pa_nil)) pa_nil))) (pg_name (i := 8) nd rfl (Or.inl rfl))
      (pss_one (ps_asg (pe_call G__law_take hr__law_take rfl T.m__law_take T.k__law_take T.b__law_take .nil pass0 (pa_cons (pv 0) (pa_cons (pv 2) pa_nil))) (pg_sub (pv 5) (pv 8) set_list))))
      (pss_cons (ps_set (i := 9) nd rfl (Or.inr rfl) (pe_op op_sub (pv 3) pe_int))
      (pss_one (ps_ret (pe_callTy call_tuple_of (by rfl) T.z_tuple (by decide +kernel) (pa_cons (pe_callB cr_sortedPO (by rfl) T.z_sorted (by decide +kernel) (pa_cons (pe_lc (own := [("_law_k", 8)]) (g := gName 8) (tt := tYes) (by rfl) nd (pi_range1 (by rfl) T.z_range (pa_cons (pe_callB call_len_seq (by rfl) T.z_len PySem.boot_len (pa_cons (pv 4) pa_nil)) pa_nil)) (blkOk_by (own := [("_law_k", 8)]) (N := sl__law_drawn) (sc := defScope s__law_drawn) (by decide +kernel)) (fun _ _ _ _ _ => pg_name (i := 8) nd rfl (Or.inl rfl)) (fun _ _ _ _ _ => pts_nil) (fun _ _ _ _ _ => (pe_tup (pa_cons (pe_op op_add (pe_op op_mul (pe_ix (ix_listK (K := K) rfl) (pv 4) (pv 8) (fun _ _ => rfl)) (pv 3)) (pv 9)) (pa_cons (pe_op op_add (pe_op op_mul (pe_ix (ix_listK (K := K) rfl) (pv 5) (pv 8) (fun _ _ => rfl)) (pv 3)) (pv 9)) pa_nil))))) pa_nil)) pa_nil)))))))))))))))), ?_⟩
  refine ⟨_, rfl, l, 9, q, ns, rfl, hf, by omega, by omega, fun m0 H1 m00 m01 f1 k1 => ?_⟩
  have g1 := (Fd.refl hf).take f1 k1
  refine ⟨_, rfl, _, rfl, l, 4, q, ns, rfl, g1.feed, by omega, by omega, fun x0 H2 x00 x01 f2 k2 => ⟨_, _, rfl, rfl, _, _, rfl, rfl, ?_⟩⟩
  have g2 := g1.take f2 k2
  refine gname_go ?_
  refine seq_mid (t1 := tIfS _ _ _) (fun σ' H' => ∃ (m wd : Int), σ' = [some (.ref l), some (.int m), some (.int wd), none, none, none, none, none, none, none] ∧ Fd K l q ns H H' ∧ 0 ≤ m ∧ m ≤ 40 ∧ m < wd ∧ wd ≤ 44) ?_ ?_
  · rintro σ' H3 ⟨m, wd, rfl, g3, a1, a2, a3, a4⟩
    refine ⟨(by show 3 ≤ sizeLine; decide), fun lp hlp => ?_⟩
    have nlp := feed_ne g3.feed hlp
    have g4 := g3.grow (same_new hlp (.lst [.int 1, .int 1, .int 3]))
    refine ⟨_, rfl, l, 3, q, ns, rfl, g4.feed, by omega, by omega, fun b H5 b0 b1 f5 k5 => ?_⟩
    have g5 := g4.take f5 k5
    obtain ⟨sc, hsc, hsc1⟩ : ∃ sc : Int, atI [V.int 1, .int 1, .int 3] b = some (V.int sc) ∧ (sc = 1 ∨ sc = 3) := by
      rcases (by omega : b = 0 ∨ b = 1 ∨ b = 2) with e | e | e
      · exact ⟨1, by rw [e]; exact atI_nat (j := 0) rfl, .inl rfl⟩
      · exact ⟨1, by rw [e]; exact atI_nat (j := 1) rfl, .inl rfl⟩
      · exact ⟨3, by rw [e]; exact atI_nat (j := 2) rfl, .inr rfl⟩
    refine ⟨lp, _, _, _, rfl, rfl, SqL.of (Same.off k5 nlp upd_same), hsc, ?_⟩
    -- the tos
    refine ⟨_, rfl, _, rfl, wd, rfl, RgOk.of_le (by omega) (by omega) (by omega) (by omega), fun rl hrl => ?_⟩
    have g6 := g5.grow (same_new hrl (.lst (rgV 0 wd)))
    have nrl := feed_ne g5.feed hrl
    refine ⟨_, rfl, l, rl, m, (List.range wd.toNat).map fun i : Nat => (i : Int), q, ns, rfl, g6.feed, ?_, (by rw [List.length_map, List.length_range]; omega), a1, by omega, fun ta ts H7 nt7 g7 et lt7 ⟨rest, pt⟩ => ?_⟩
    · refine SqL.of ?_
      rw [del_ne nrl, upd_same, rgV_iV]
    have G7 := g6.trans g7
    have lts : ts.length = m.toNat := by rw [lt7, List.length_map, List.length_range]; omega
    have tsn : ts.Nodup := nodup_app_left pt (rg_nodup wd)
    have tsb : ∀ x ∈ ts, 0 ≤ x ∧ x < wd := fun x mx => by
      obtain ⟨i, mi, rfl⟩ := List.mem_map.mp (mem_app_left pt mx)
      have := List.mem_range.mp mi
      omega
    have nta : H ta = none := g6.old nt7
    have ntl := feed_ne g6.feed nt7
    -- the froms
    refine ⟨_, rfl, _, rfl, _, rfl, ta, _, rfl, .inl (SqL.of et), l, ta, _, ts, q, ns, rfl, G7.feed, SqL.of (by rw [del_ne ntl]; exact et), by omega, (by rw [iV_len]; omega), (by rw [iV_len]; omega), fun fa fs H8 nf8 g8 ef lf8 ⟨rest2, pf⟩ => ?_⟩
    have nfa : H fa = none := G7.old nf8
    have nfl := feed_ne G7.feed nf8
    have ntf : ta ≠ fa := fun z => by rw [← z, et] at nf8; cases nf8
    have d8 : DrS K l q ns H ta ts wd fa fs H8 := ⟨G7.trans g8, nta, nfa, ntf, g8.at ntl et, ef, (by rw [lf8, iV_len]; omega), fun x mx => tsb x (mem_app_left pf mx)⟩
    -- the way
    refine ⟨_, rfl, l, 3, q, ns, rfl, d8.fd.feed, by omega, by omega, fun wy H9 w0 w1 f9 k9 => ?_⟩
    have d9 : DrS K l q ns H ta ts wd fa fs H9 := ⟨d8.fd.take f9 k9, nta, nfa, ntf, Same.off k9 ntl d8.et, Same.off k9 nfl d8.ef, d8.len, d8.inw⟩
    refine ⟨_, rfl, ta, _, rfl, .inl (SqL.of d9.et), ?_⟩
    refine gname_go ?_
    refine seq_mid (t1 := tIfS _ _ _) (fun σ' H' => ∃ (cut : Int), σ' = [some (.ref l), some (.int m), some (.int wd), some (.int sc), some (.ref ta), some (.ref fa), some (.int wy), some (.int cut), none, none] ∧ H' = H9 ∧ 0 ≤ cut ∧ cut ≤ (ts.length : Int)) ?_ ?_
    · rintro σ' H' ⟨cut, rfl, rfl, c0, c1⟩
      refine seq_mid (t1 := tIfS _ _ _) (fun σ' H' => ∃ (cut : Int) (fa : Addr) (fs : List Int), σ' = [some (.ref l), some (.int m), some (.int wd), some (.int sc), some (.ref ta), some (.ref fa), some (.int wy), some (.int cut), none, none] ∧ DrS K l q ns H ta ts wd fa fs H' ∧ 0 ≤ cut ∧ cut ≤ (ts.length : Int)) ?_ ?_
      · rintro σ' H' ⟨cut, fa, fs, rfl, d, c0, c1⟩
        refine ⟨_, rfl, _, rfl, ta, _, rfl, .inl (SqL.of d.et), cut, (ts.length : Int), (by rw [iV_len]), ⟨by omega, by omega, by omega, by omega⟩, ?_⟩
        refine for_range (lo := cut) (n := ((ts.length : Int) - cut).toNat) (fun i σ H' => ∃ (fs : List Int) (o8 : Option V), σ = [some (.ref l), some (.int m), some (.int wd), some (.int sc), some (.ref ta), some (.ref fa), some (.int wy), some (.int cut), o8, none] ∧ DrS K l q ns H ta ts wd fa fs H') ?_ ?_ ?_
        · exact ⟨fs, none, rfl, d⟩
        · rintro i σ H10 hi ⟨fs, o8, rfl, d⟩
          refine ⟨_, rfl, _, rfl, l, wd, q, ns, rfl, d.fd.feed, by omega, by omega, fun v H11 v0 v1 f11 k11 => ?_⟩
          have nfl := feed_ne hf d.nf
          have hj : (cut.toNat + i) < fs.length := by rw [d.len]; omega
          refine ⟨_, rfl, _, rfl, fa, _, _, cut.toNat + i, rfl, rfl, Same.off k11 nfl d.ef, (by rw [show cut + (i : Int) = ((cut.toNat + i : Nat) : Int) by omega]; exact ixN_nat (by rw [iV_len]; exact hj)), ?_⟩
          rw [iV_set]
          refine ⟨fs.set (cut.toNat + i) v, _, rfl, (d.fd.take f11 k11).mut hf d.nf, d.nt, d.nf, d.ne, ?_, upd_same, by rw [List.length_set]; exact d.len, fun x mx => ?_⟩
          · rw [upd_ne d.ne]; exact Same.off k11 ntl d.et
          · rcases List.mem_or_eq_of_mem_set mx with m1 | m1
            · exact d.inw x m1
            · rw [m1]; exact ⟨v0, v1⟩
        · rintro σ H10 ⟨fs, o8, rfl, d⟩
          refine ⟨_, rfl, _, _, rfl, rfl, ?_⟩
          refine ⟨_, rfl, ta, _, rfl, .inl (SqL.of d.et), (ts.length : Int), (by rw [iV_len]), by omega, by omega, fun D hD => ?_⟩
          have nDt : ta ≠ D := fun z => by rw [← z, d.et] at hD; cases hD
          have nDf : fa ≠ D := fun z => by rw [← z, d.ef] at hD; cases hD
          have nDl := feed_ne d.fd.feed hD
          refine lc_range (lo := 0) (n := (ts.length : Int).toNat) (fun j H' => Same H10 H' ∧ ∃ acc, H' D = some (.lst acc) ∧ acc.length = j ∧ ∀ i, i < j → ∃ t, t ≠ D ∧ H10 t = none ∧ acc[i]? = some (.ref t) ∧ H' t = some (.tup [.int (ts.getD i 0 * sc + (sc - 1)), .int (fs.getD i 0 * sc + (sc - 1))])) ?_ ?_ ?_
          · exact ⟨same_new hD _, [], upd_same, rfl, fun i hi => absurd hi (Nat.not_lt_zero _)⟩
          · rintro j H' hj ⟨e, acc, eD, la, ha⟩
            have hj1 : j < ts.length := by omega
            have hj2 : j < fs.length := by rw [d.len]; exact hj1
            refine ⟨rfl, ?_⟩
            rw [show (0 : Int) + (j : Int) = (j : Int) by omega]
            have b1 := tsb _ (List.getElem_mem hj1)
            have b2 := d.inw _ (List.getElem_mem hj2)
            refine ⟨_, rfl, _, rfl, ta, _, _, _, rfl, rfl, SqL.of (e _ _ d.et), atI_nat (iV_at hj1), ?_⟩
            refine ⟨_, rfl, _, _, rfl, rfl, .inr ⟨by omega, by omega⟩, ?_⟩
            refine ⟨_, rfl, _, _, rfl, rfl, ?_⟩
            refine ⟨_, rfl, _, rfl, fa, _, _, _, rfl, rfl, SqL.of (e _ _ d.ef), atI_nat (iV_at hj2), ?_⟩
            refine ⟨_, rfl, _, _, rfl, rfl, .inr ⟨by omega, by omega⟩, ?_⟩
            refine ⟨_, rfl, _, _, rfl, rfl, ?_⟩
            refine ⟨(by show 2 ≤ sizeLine; decide), fun t ht => ?_⟩
            have ntD : t ≠ D := fun z => by rw [z, eD] at ht; cases ht
            refine ⟨acc, (by rw [upd_ne ntD.symm]; exact eD), szl (by omega), same_mut (e.trans (same_new ht _)) hD, acc ++ [.ref t], upd_same, by rw [List.length_append, la]; rfl, fun i hi => ?_⟩
            by_cases c : i = j
            · subst c
              refine ⟨t, ntD, none_of e ht, ?_, ?_⟩
              · rw [List.getElem?_append_right (by omega), la, Nat.sub_self]; rfl
              · rw [upd_ne ntD]; exact upd_same
            · obtain ⟨t2, n2, o2, e2, h2⟩ := ha i (by omega)
              refine ⟨t2, n2, o2, ?_, ?_⟩
              · rw [List.getElem?_append_left (by omega)]; exact e2
              · rw [upd_ne n2, upd_ne (fun z => by rw [z, ht] at h2; cases h2)]; exact h2
          · rintro H' ⟨e, acc, eD, la, ha⟩
            have lan : acc.length = ts.length := by omega
            have mem : ∀ y ∈ acc, ∃ (t : Addr) (i : Nat), i < ts.length ∧ t ≠ D ∧ H10 t = none ∧ y = .ref t ∧ H' t = some (.tup [.int (ts.getD i 0 * sc + (sc - 1)), .int (fs.getD i 0 * sc + (sc - 1))]) := fun y my => by
              obtain ⟨i, hi⟩ := List.mem_iff_getElem?.mp my
              have il := (List.getElem?_eq_some_iff.mp hi).1
              obtain ⟨t, n1, o1, e1, h1⟩ := ha i (by omega)
              rw [hi] at e1
              exact ⟨t, i, by omega, n1, o1, Option.some.inj e1, h1⟩
            have tosE : acc.map (fun y => (kOf H' y).1) = ts.map (fun x => x * sc + (sc - 1)) := by
              refine List.ext_getElem? fun i => ?_
              by_cases c : i < ts.length
              · obtain ⟨t, n1, o1, e1, h1⟩ := ha i (by omega)
                rw [List.getElem?_map, List.getElem?_map, e1, List.getElem?_eq_getElem c]
                show some (kOf H' (.ref t)).1 = some (ts[i] * sc + (sc - 1))
                rw [kOf_at h1, List.getD_eq_getElem?_getD, List.getElem?_eq_getElem c]
                rfl
              · rw [List.getElem?_eq_none (by rw [List.length_map]; omega), List.getElem?_eq_none (by rw [List.length_map]; omega)]
            have nodT : (acc.map (fun y => (kOf H' y).1)).Nodup := by
              rw [tosE]
              refine List.Pairwise.map _ (fun a b h z => h ?_) tsn
              rcases hsc1 with e | e <;> (rw [e] at z; omega)
            refine ⟨D, acc, kOf H', rfl, SqL.of eD, fun y my => ?_, fun ys sp hs hb hsp => ?_⟩
            · obtain ⟨t, i, _, _, _, rfl, h1⟩ := mem y my
              exact ⟨t, rfl, by rw [kOf_at h1]; exact h1⟩
            have pm := hb.perm
            have nlp := feed_ne ((d.fd.grow e).feed) hsp
            refine ⟨sp, _, rfl, .inl ⟨SqL.of upd_same, fun p hp => ?_⟩⟩
            have e2 : Same H10 (upd H' sp (.lst ys)) := e.trans (same_new hsp _)
            have npl := feed_ne (feed_mono d.fd.feed e2) hp
            refine k p (ys.map (kOf H')) _ (d.fd.grow (e2.trans (same_new hp _))) (.tup (SqT.of (by rw [del_ne npl]; exact upd_same)) ?_) ?_ ?_ ?_
            · rw [List.map_map]
              refine dpAll_of fun y my => ?_
              obtain ⟨t, i, _, _, o1, rfl, h1⟩ := mem y (pm.mem_iff.mp my)
              have ntl := feed_ne d.fd.feed o1
              show Dp K _ _ (prD (kOf H' (.ref t)))
              rw [kOf_at h1]
              refine .tup (SqT.of ?_) (.cons (.int _) (.cons (.int _) .nil))
              rw [del_ne ntl, upd_ne (fun z => by rw [← z, upd_ne (fun y => by rw [← y, h1] at hsp; cases hsp), h1] at hp; cases hp), upd_ne (fun y => by rw [← y, h1] at hsp; cases hsp)]
              exact h1
            · show (List.map _ (List.map _ ys)).Pairwise _
              rw [List.map_map]
              have n2 : (ys.map (fun y => (kOf H' y).1)).Nodup := (pm.map _).nodup_iff.mpr nodT
              refine List.pairwise_map.mpr ((List.Pairwise.and hs (List.pairwise_map.mp n2)).imp fun {x y} h => ?_)
              have h1 := SrtO.lexB_no.mp h.1
              have h2 := h.2
              show (kOf H' x).1 < (kOf H' y).1
              omega
            · rw [List.length_map, pm.length_eq]; omega
            · intro r mr
              obtain ⟨y, my, rfl⟩ := List.mem_map.mp mr
              obtain ⟨t, i, hi, _, _, rfl, h1⟩ := mem y (pm.mem_iff.mp my)
              have b1 : 0 ≤ ts.getD i 0 ∧ ts.getD i 0 < wd := by
                rw [List.getD_eq_getElem?_getD, List.getElem?_eq_getElem hi]; exact tsb _ (List.getElem_mem hi)
              have hi2 : i < fs.length := by rw [d.len]; exact hi
              have b2 : 0 ≤ fs.getD i 0 ∧ fs.getD i 0 < wd := by
                rw [List.getD_eq_getElem?_getD, List.getElem?_eq_getElem hi2]; exact d.inw _ (List.getElem_mem hi2)
              rw [kOf_at h1]
              show 0 ≤ ts.getD i 0 * sc + (sc - 1) ∧ ts.getD i 0 * sc + (sc - 1) < 200 ∧ 0 ≤ fs.getD i 0 * sc + (sc - 1) ∧ fs.getD i 0 * sc + (sc - 1) < 200
              rcases hsc1 with e | e <;> (rw [e]; omega)
      · intro nx hnx
        refine ⟨_, rfl, rfl, _, rfl, ?_⟩
        refine ite2 (fun c => ?_) (fun c => ?_)
        · refine ⟨_, rfl, _, rfl, ta, _, rfl, .inl (SqL.of d9.et), _, _, rfl, rfl, l, _, q, ns, rfl, d9.fd.feed, by omega, (by rw [iV_len]; omega), fun cc H10 c0 c1 f10 k10 => ?_⟩
          rw [iV_len] at c1
          have d10 : DrS K l q ns H ta ts wd fa fs H10 := ⟨d9.fd.take f10 k10, nta, nfa, ntf, Same.off k10 ntl d9.et, Same.off k10 nfl d9.ef, d9.len, d9.inw⟩
          obtain ⟨cn, rfl⟩ := Int.eq_ofNat_of_zero_le c0
          refine ⟨_, rfl, _, rfl, _, rfl, _, rfl, ta, _, rfl, SqL.of d10.et, fun b1 hb1 => ?_⟩
          have nb1 := feed_ne d10.fd.feed hb1
          have nt1 : ta ≠ b1 := fun z => by rw [← z, d10.et] at hb1; cases hb1
          rw [cut_hi, iV_take]
          have g11 := d10.fd.grow (same_new hb1 (.lst (iV (ts.take cn))))
          refine ⟨_, rfl, l, b1, _, ts.take cn, q, ns, rfl, g11.feed, SqL.of (by rw [del_ne nb1]; exact upd_same), (by rw [List.length_take]; omega), by omega, by omega, fun fa2 fs2 H12 nf12 g12 ef12 lf12 ⟨rest3, pf3⟩ => ?_⟩
          have nfa2 := feed_ne g11.feed nf12
          have G12 := g11.trans g12
          have et12 : H12 ta = some (.lst (iV ts)) := g12.at ntl (by rw [upd_ne nt1]; exact d10.et)
          refine ⟨_, rfl, _, rfl, _, rfl, ta, _, rfl, SqL.of et12, fun b2 hb2 => ?_⟩
          have nb2f : b2 ≠ fa2 := fun z => by rw [z, ef12] at hb2; cases hb2
          rw [cut_lo, iV_drop]
          have G13 := G12.grow (same_new hb2 (.lst (iV (ts.drop cn))))
          refine ⟨fa2, b2, _, _, rfl, rfl, (by rw [upd_ne nb2f.symm]; exact ef12), upd_same, (by rw [iV_len, iV_len, lf12, List.length_take, List.length_drop]; exact Nat.le_of_lt (szl (by omega))), fun fa3 nf13 => ?_⟩
          have nt3 : ta ≠ fa3 := fun z => by
            rw [← z, upd_ne (fun y => by rw [← y, et12] at hb2; cases hb2), et12] at nf13
            cases nf13
          have ntb2 : ta ≠ b2 := fun y => by rw [← y, et12] at hb2; cases hb2
          refine hnx _ _ ⟨_, fa3, fs2 ++ ts.drop cn, rfl, ⟨G13.grow (same_new nf13 _), nta, G13.old nf13, nt3, ?_, ?_, ?_, fun x mx => ?_⟩, by omega, by omega⟩
          · rw [upd_ne nt3, upd_ne ntb2]; exact et12
          · rw [upd_same]
            show some (HO.lst (iV fs2 ++ iV (ts.drop cn))) = _
            unfold iV; rw [List.map_append]
          · rw [List.length_append, lf12, List.length_take, List.length_drop]; omega
          · rcases List.mem_append.mp mx with m1 | m1
            · exact tsb x (List.mem_of_mem_take (mem_app_left pf3 m1))
            · exact tsb x (List.mem_of_mem_drop m1)
        · exact hnx _ _ ⟨cut, fa, fs, rfl, d9, c0, c1⟩
    · intro nx hnx
      refine ⟨_, rfl, rfl, _, rfl, ?_⟩
      refine ite2 (fun c => ?_) (fun c => ?_)
      · exact hnx _ _ ⟨0, rfl, rfl, by omega, by omega⟩
      · exact hnx _ _ ⟨_, rfl, rfl, by omega, by rw [iV_len]; omega⟩
  · intro nx hnx
    refine ⟨_, rfl, l, 16, q, ns, rfl, g2.feed, by omega, by omega, fun y H3 y0 y1 f3 k3 => ?_⟩
    have g3 := g2.take f3 k3
    refine ⟨rfl, _, rfl, ?_⟩
    refine ite2 (fun c => ?_) (fun c => ?_)
    · refine ⟨_, rfl, l, 16, q, ns, rfl, g3.feed, by omega, by omega, fun z H4 z0 z1 f4 k4 => ⟨_, _, rfl, rfl, ?_⟩⟩
      exact hnx _ _ ⟨_, _, rfl, g3.take f4 k4, by omega, by omega, by omega, by omega⟩
    · exact hnx _ _ ⟨_, _, rfl, g3, by omega, by omega, by omega, by omega⟩
end
end Lk

set_option Elab.async false
set_option linter.all false
set_option maxRecDepth 100000
set_option maxHeartbeats 4000000
namespace Lk
open PySem PySem.Spec PyProof.Rows L2
/-- the heap without its lists -/
def nol (H : Hp) : Hp := fun b => match H b with
  | some (.lst _) => none
  | u => u
section
variable {K : PySem.W.Frag} {H H' : Hp} {p a : Addr} {xs ys : List V} {o u : HO}
theorem nol_some (h : nol H p = some u) : H p = some u := by
  unfold nol at h
  split at h
  · cases h
  · exact h
theorem nol_at (h : H p = some u) (n : ∀ xs, u ≠ .lst xs) : nol H p = some u := by
  unfold nol
  rw [h]
  cases u with
  | lst xs => exact absurd rfl (n xs)
  | _ => rfl
theorem nol_le : Same (nol H) H := fun b u q => nol_some q
theorem nol_not (h : nol H p = some (.lst xs)) : False := by
  have e := nol_some h
  unfold nol at h
  rw [e] at h
  cases h
theorem nol_same (e : Same H H') : Same (nol H) (nol H') := fun b u q => nol_at (e b u (nol_some q)) fun xs z => nol_not (z ▸ q)
theorem nol_mut (h : H p = some (.lst xs)) : nol (upd H p (.lst ys)) = nol H := by
  funext b
  unfold nol
  by_cases c : b = p
  · rw [c, upd_same, h]
  · rw [upd_ne c]
theorem nol_newl (h : H p = none) : nol (upd H p (.lst ys)) = nol H := by
  funext b
  unfold nol
  by_cases c : b = p
  · rw [c, upd_same, h]
  · rw [upd_ne c]
theorem seqT_nol (h : SqT K H a xs) : SqT K (nol H) a xs := by
  rcases h with (h | ⟨o, h⟩) | h
  · exact .inl (.inl (nol_at h fun _ z => nomatch z))
  · exact .inl (.inr ⟨o, nol_at h fun _ z => nomatch z⟩)
  · exact .inr h
mutual
theorem dp_nol : ∀ {v : V} {d : PyData}, noL d = true → Dp K H v d → Dp K (nol H) v d
  | _, _, _, .non => .non
  | _, _, _, .bl b => .bl b
  | _, _, _, .int i => .int i
  | _, _, _, .str x => .str x
  | _, _, n, .lst h a => nomatch n
  | _, _, n, .tup h a => .tup (seqT_nol h) (dpAll_nol n a)
theorem dpAll_nol : ∀ {vs : List V} {ds : List PyData}, noLs ds = true → DpAll K H vs ds → DpAll K (nol H) vs ds
  | _, _, _, .nil => .nil
  | _, _, n, .cons a b => .cons (dp_nol (Bool.and_eq_true_iff.mp n).1 a) (dpAll_nol (Bool.and_eq_true_iff.mp n).2 b)
end
end
theorem noLs_prs : ∀ L : List Pr, noLs (L.map prD) = true
  | [] => rfl
  | _ :: r => noLs_prs r
theorem noLs_rws : ∀ L : List Rw, noLs (L.map rwD) = true
  | [] => rfl
  | _ :: r => noLs_rws r
theorem pr_inv {K : PySem.W.Frag} {H : Hp} {x : V} {p : Pr} (h : Dp K H x (prD p)) : ∃ a : Addr, x = .ref a ∧ SqT K H a [.int p.1, .int p.2] := by
  cases h with
  | tup h g =>
    cases g with
    | cons g0 t =>
      cases t with
      | cons g1 t =>
        cases t
        cases g0
        cases g1
        exact ⟨_, rfl, h⟩
theorem eqv_pr (a b : Pr) : PyData.eqv (prD a) (prD b) = decide (a = b) := by
  show ((a.1 == b.1) && ((a.2 == b.2) && true)) = decide (a = b)
  by_cases h1 : a.1 = b.1
  · by_cases h2 : a.2 = b.2
    · rw [h1, h2, decide_eq_true (show a = b from Prod.ext h1 h2)]; simp
    · rw [decide_eq_false (show ¬ a = b from fun e => h2 (congrArg Prod.snd e)), beq_eq_false_iff_ne.mpr h2, Bool.false_and, Bool.and_false]
  · rw [decide_eq_false (show ¬ a = b from fun e => h1 (congrArg Prod.fst e)), beq_eq_false_iff_ne.mpr h1, Bool.false_and]
theorem hu65 {A : Around} {k : Nat} (hr : Room k A) : A.units + 65 < cLine := by have := hr.un; omega
theorem rows_enough : ∀ (n m : Nat) (L : List Pr), GoodL L → L.length ≤ n → L.length ≤ m → rowsN n L = rowsN m L
  | 0, m, L, _, h, _ => by
    have : L = [] := List.eq_nil_of_length_eq_zero (Nat.le_zero.mp h)
    subst this
    cases m <;> rfl
  | n + 1, 0, L, _, _, h => by
    have : L = [] := List.eq_nil_of_length_eq_zero (Nat.le_zero.mp h)
    subst this
    rfl
  | n + 1, m + 1, L, g, h1, h2 => by
    show (match stepR L with | none => [] | some (r, L') => r :: rowsN n L') = (match stepR L with | none => [] | some (r, L') => r :: rowsN m L')
    cases e : stepR L with
    | none => rfl
    | some rl =>
      obtain ⟨r, L'⟩ := rl
      obtain ⟨g2, l2⟩ := step_less g e
      show r :: rowsN n L' = r :: rowsN m L'
      rw [rows_enough n m L' g2 (by omega) (by omega)]
theorem erase_without : ∀ {L : List Pr} {q : Pr} {j : Nat}, (tos L).Nodup → L[j]? = some q → L.eraseIdx j = without q.1 L
  | a :: r, q, 0, hn, h => by
    have hn' := List.nodup_cons.mp (show (a.1 :: tos r).Nodup from hn)
    obtain rfl : a = q := Option.some.inj h
    have e : without a.1 r = r := List.filter_eq_self.mpr fun z m => decide_eq_true (show z.1 ≠ a.1 from fun e => hn'.1 (by rw [← e]; exact List.mem_map.mpr ⟨z, m, rfl⟩))
    have f : without a.1 (a :: r) = without a.1 r := List.filter_cons_of_neg (by simp)
    rw [f, e]
    rfl
  | a :: r, q, j + 1, hn, h => by
    have hn' := List.nodup_cons.mp (show (a.1 :: tos r).Nodup from hn)
    have m : q ∈ r := List.mem_of_getElem? (show r[j]? = some q from h)
    have i := erase_without (q := q) (j := j) hn'.2 h
    have ne : a.1 ≠ q.1 := fun e => hn'.1 (by rw [e]; exact List.mem_map.mpr ⟨q, m, rfl⟩)
    have f : without q.1 (a :: r) = a :: without q.1 r := List.filter_cons_of_pos (decide_eq_true ne)
    rw [f, ← i]
    rfl
theorem idx_of : ∀ {L : List Pr} {q : Pr}, q ∈ L → ∃ j, (L.map prD).findIdx? (fun z => PyData.eqv z (prD q)) = some j ∧ L[j]? = some q
  | a :: r, q, m => by
    by_cases c : a = q
    · refine ⟨0, ?_, by rw [c]; rfl⟩
      rw [List.map_cons, List.findIdx?_cons, eqv_pr, decide_eq_true c]
      rfl
    · obtain ⟨j, h1, h2⟩ := idx_of ((List.mem_cons.mp m).resolve_left fun e => c e.symm)
      refine ⟨j + 1, ?_, h2⟩
      rw [List.map_cons, List.findIdx?_cons, eqv_pr, decide_eq_false c, h1]
      rfl
theorem plain_prs : ∀ L : List Pr, PyData.plainAll (L.map prD) = true
  | [] => rfl
  | a :: r => by
    show (PyData.plain (prD a) && PyData.plainAll (r.map prD)) = true
    rw [plain_prs r]; rfl
theorem depth_pr (q : Pr) : (prD q).depth ≤ 60 := by
  simp [prD, PyData.depth, PyData.depthAll]
theorem unl_goodP {L : List Pr} (h : (tos L).Pairwise (· < ·)) : GoodL (unl L) :=
  ⟨h.sublist ((List.filter_sublist ..).map _), fun p m => of_decide_eq_true (List.mem_filter.mp m).2⟩
theorem dp_erase {K : PySem.W.Frag} {H : Hp} : ∀ {vs : List V} {ds : List PyData} (j : Nat), DpAll K H vs ds → DpAll K H (vs.eraseIdx j) (ds.eraseIdx j)
  | _, _, _, .nil => .nil
  | _, _, 0, .cons a b => b
  | _, _, j + 1, .cons a b => .cons a (dp_erase j b)
theorem map_erase {α β : Type} (f : α → β) : ∀ (l : List α) (j : Nat), (l.map f).eraseIdx j = (l.eraseIdx j).map f
  | [], j => rfl
  | a :: r, 0 => rfl
  | a :: r, j + 1 => congrArg (f a :: ·) (map_erase f r j)
/-- the state of the rows' laps -/
structure RwS (K : PySem.W.Frag) (H : Hp) (L0 : List Pr) (N i : Nat) (la ma : Addr) (ps vs : List V) (L : List Pr) (done : List Rw) (H' : Hp) : Prop where
  same : Same H H'
  nl : H la = none
  nm : H ma = none
  ne : la ≠ ma
  el : H' la = some (.lst ps)
  em : H' ma = some (.lst vs)
  dl : DpAll K (nol H') ps (L.map prD)
  dm : DpAll K (nol H') vs (done.map rwD)
  g : GoodL L
  out : done ++ rowsN 1000 L = rowsN 1000 (unl L0)
  len : L.length ≤ N - i
  dn : done.length ≤ i
def spRows (K : PySem.W.Frag) : Sp := fun vs H Q _ => ∃ (x : V) (L : List Pr), vs = [x] ∧ Dp K H x (prsD L) ∧ (tos L).Pairwise (· < ·) ∧ L.length ≤ 1000 ∧ ∀ p H', Same H H' → Dp K H' (.ref p) (rwsD (rowsN 1000 (unl L))) → Q (.ref p) H'
theorem seq_midg {i : Nat} {v : V} {t1 t2 : TS} {D : Ends} {σ : L2.St} {H : Hp} (I : L2.St → Hp → Prop) (hI : ∀ σ' H', I σ' H' → t2 D σ' H') (h : ∀ nx : L2.St → Hp → Prop, (∀ σ' H', I σ' H' → nx σ' H') → t1 { D with nx := nx } (σ.set i (some v)) H) :
    gName i v σ H (tSeq t1 t2 D) := h _ hI
theorem prs_get {K : PySem.W.Frag} {H : Hp} {xs : List V} {L : List Pr} {i : Nat} {z : V} (h : DpAll K H xs (L.map prD)) (e : xs[i]? = some z) : ∃ q t, L[i]? = some q ∧ z = .ref t ∧ SqT K H t [.int q.1, .int q.2] := by
  obtain ⟨d, _, e1, h1⟩ := dp_get h e
  rw [List.getElem?_map] at e1
  cases c : L[i]? with
  | none => rw [c] at e1; cases e1
  | some q =>
    rw [c] at e1
    obtain rfl : prD q = d := Option.some.inj e1
    obtain ⟨t, e2, h2⟩ := pr_inv h1
    exact ⟨q, t, rfl, e2, h2⟩
theorem at2 {i j : Int} : atI [V.int i, .int j] 0 = some (V.int i) ∧ atI [V.int i, .int j] 1 = some (V.int j) := ⟨atI_nat (j := 0) rfl, atI_nat (j := 1) rfl⟩
section
variable {P : Program} {w : World} {K : PySem.W.Frag} {mg : Str → Option Value} {base : Heap}
theorem ok_rows (T : Txt K mg) : FnOk P w K mg base CX0 1 T.f__law_rows T.d__law_rows ["_law_got"] (spRows K) := by
  have nd := sc__law_rows.nd
  refine T.F__law_rows.ok sc__law_rows (fun vs H Q E h => ?_) (fun cdv A outer s H vs Q E hr h => ?_)
  · obtain ⟨x, L, rfl, _⟩ := h
    rfl
  obtain ⟨x, L0, rfl, hd, hasc, hL, k⟩ := h
  refine ⟨_, (pss_cons (ps_setLc (i := 1) (own := [("_law_pair", 8)]) (g := gName 8) (by rfl) nd rfl rfl (sw_true rfl rfl rfl (by decide +kernel)) (pi_tup (pv 0)) (blkOk_by (own := [("_law_pair", 8)]) (N := sl__law_rows) (sc := defScope s__law_rows) (by decide +kernel)) (fun _ _ _ _ _ => pg_name (i := 8) nd rfl (Or.inl rfl)) (fun _ _ _ _ _ => (pts_one (pt_cmpR op_ne (pe_ix (ix_tupK (K := K) rfl) (pv 8) pe_int (fun _ _ => rfl)) (pe_ix (ix_tupK (K := K) rfl) (pv 8) pe_int (fun _ _ => rfl)) (nomark _)))) (fun _ _ _ _ _ => (pv 8)))
      (pss_cons (ps_set (i := 2) nd rfl (Or.inl rfl) (pe_lst pa_nil))
      (pss_cons (ps_for PassesOwn.never rfl (pi_range1 (by rfl) T.z_range (pa_cons (pe_callB call_len_seq (by rfl) T.z_len PySem.boot_len (pa_cons (pv 0) pa_nil)) pa_nil)) (pg_name (i := 3) nd rfl (Or.inl rfl))
      (pss_cons (ps_set (i := 4) nd rfl (Or.inr rfl) (pe_lc (own := [("_law_pair", 8)]) (g := gName 8) (tt := tYes) (by rfl) nd (pi_list (pv 1)) (blkOk_by (own := [("_law_pair", 8)]) (N := sl__law_rows) (sc := defScope s__law_rows) (by decide +kernel)) (fun _ _ _ _ _ => pg_name (i := 8) nd rfl (Or.inl rfl)) (fun _ _ _ _ _ => pts_nil) (fun _ _ _ _ _ => (pe_ix (ix_tupK (K := K) rfl) (pv 8) pe_int (fun _ _ => rfl)))))
      (pss_cons (ps_setLc (i := 5) (own := [("_law_pair", 8)]) (g := gName 8) (by rfl) nd rfl rfl (sw_true rfl rfl rfl (by decide +kernel)) (pi_list (pv 1)) (blkOk_by (own := [("_law_pair", 8)]) (N := sl__law_rows) (sc := defScope s__law_rows) (by decide +kernel)) (fun _ _ _ _ _ => pg_name (i := 8) nd rfl (Or.inl rfl)) (fun _ _ _ _ _ => (pts_one (pt_cmpR (op_notInK (K := K) rfl) (pe_ix (ix_tupK (K := K) rfl) (pv 8) pe_int (fun _ _ => rfl)) (pv 4) (by rfl)))) (fun _ _ _ _ _ => (pv 8)))
      (pss_one (ps_if (pt_truth (pv 5) (by intro _; rfl)) (pss_cons (ps_expr (pe_bm PySem.F.plainAttrs_list PySem.F.slot_list_append PySem.F.type_list_append mt_append (pv 2) (pa_cons (pe_tup (pa_cons pe_str (pa_cons (pe_ix ix_tup (pe_ix ix_list (pv 5) pe_int (fun _ _ => rfl)) pe_int (fun _ _ => rfl)) (pa_cons (pe_ix ix_tup (pe_ix ix_list (pv 5) pe_int (fun _ _ => rfl)) pe_int (fun _ _ => rfl)) pa_nil)))) pa_nil)))
      (pss_one (ps_expr (by exact (pe_bm PySem.F.plainAttrs_list PySem.F.slot_list_remove PySem.F.type_list_remove (mt_removeD (hu65 hr)) (pv 1) (pa_cons (pe_ix ix_list (pv 5) pe_int (fun _ _ => rfl)) pa_nil)))))) (pss_one (ps_if (pt_truth (pv 1) (by intro _; rfl)) (pss_cons (ps_set (i := 6) nd rfl (Or.inl rfl) (pe_ix ix_list (pv 1) pe_int (fun _ _ => rfl)))
      (pss_cons (ps_expr (pe_bm PySem.F.plainAttrs_list PySem.F.slot_list_append PySem.F.type_list_append mt_append (pv 2) (pa_cons (pe_tup (pa_cons pe_str (pa_cons (pe_ix ix_tup (pv 6) pe_int (fun _ _ => rfl)) (pa_cons (pe_ix ix_tup (pv 6) pe_int (fun _ _ => rfl)) pa_nil)))) pa_nil)))
      (pss_cons (ps_set (i := 7) nd rfl (Or.inl rfl) (pe_lst pa_nil))
      (pss_cons (ps_for PassesOwn.never rfl (pi_list (pe_slice sl_list (pv 1) (po_some pe_int) po_none)) (pg_name (i := 8) nd rfl (Or.inl rfl))
      (pss_cons (ps_if (pt_cmpR op_eq (pe_ix ix_tup (pv 8) pe_int (fun _ _ => rfl)) (pe_ix ix_tup (pv 6) pe_int (fun _ _ => rfl)) (nomark _)) (pss_one (ps_set (i := 8) nd rfl (Or.inl rfl) (pe_tup (pa_cons (pe_ix ix_tup (pv 8) pe_int (fun _ _ => rfl)) (pa_cons (pe_ix ix_tup (pv 6) pe_int (fun _ _ => rfl)) pa_nil))))) pss_nil)
      (pss_one (ps_if (pt_cmpR op_ne (pe_ix ix_tup (pv 8) pe_int (fun _ _ => rfl)) (pe_ix ix_tup (pv 8) pe_int (fun _ _ => rfl)) (nomark _)) (pss_one (ps_expr (pe_bm PySem.F.plainAttrs_list PySem.F.slot_list_append PySem.F.type_list_append mt_append (pv 7) (pa_cons (pv 8) pa_nil)))) pss_nil))))
      (pss_one (ps_set (i := 1) nd rfl (Or.inl rfl) (pv 7))))))) pss_nil)))))))
      (pss_one (ps_ret (pe_callTy call_tuple_of (by rfl) T.z_tuple (by decide +kernel) (pa_cons (pv 2) pa_nil))))))), ?_⟩
  obtain ⟨a, xs, rfl, ha, hx⟩ := tup_inv hd
  have hl : xs.length = L0.length := by rw [dp_len hx, List.length_map]
  refine ⟨_, rfl, a, rfl, ⟨_, ha⟩, fun la hla => ?_⟩
  refine lc_tup (K := K) (a := a) (xs := xs) (fun i H' => Same H H' ∧ ∃ acc, H' la = some (.lst acc) ∧ DpAll K (nol H') acc ((unl (L0.take i)).map prD) ∧ acc.length ≤ i) ?_ ?_ ?_ ?_
  · exact ⟨same_new hla _, [], upd_same, .nil, Nat.le_refl _⟩
  · rintro i H' _ ⟨e, _⟩
    exact seqT_same e ha
  · rintro i z H' hiz ⟨e, acc, eA, hA, lA⟩
    obtain ⟨q, t, hq, rfl, ht⟩ := prs_get hx hiz
    have ht' := seqT_same e ht
    have hi : i < xs.length := (List.getElem?_eq_some_iff.mp hiz).1
    refine ⟨rfl, ?_⟩
    refine ⟨_, rfl, t, _, _, _, rfl, rfl, ht', at2.1, _, rfl, t, _, _, _, rfl, rfl, ht', at2.2, rfl, _, rfl, ?_⟩
    have ek : L0.take (i + 1) = L0.take i ++ [q] := by rw [List.take_succ, hq]; rfl
    rw [ek, unl_snoc]
    by_cases c : q.1 = q.2
    · refine ifF (ne_f c) ?_
      rw [if_pos c, List.append_nil]
      exact ⟨e, acc, eA, hA, by omega⟩
    · refine ifT (ne_t c) ?_
      rw [if_neg c]
      refine ⟨_, rfl, acc, eA, szl (by omega), same_mut e hla, acc ++ [.ref t], upd_same, ?_, by rw [List.length_append]; show _ + 1 ≤ _; omega⟩
      rw [nol_mut eA, List.map_append]
      exact dpAll_app hA (.tup (seqT_nol ht') (.cons (.int _) (.cons (.int _) .nil)))
  · rintro H1 ⟨e, acc, eA, hA, lA⟩
    rw [hl, List.take_length] at hA
    refine ⟨(by show 0 ≤ sizeLine; decide), fun ma hma => ?_⟩
    have nlm : la ≠ ma := fun z => by rw [← z, eA] at hma; cases hma
    have hma0 : H ma = none := none_of e hma
    have e2 : Same H (upd H1 ma (.lst [])) := e.trans (same_new hma _)
    refine ⟨_, rfl, a, xs, rfl, .inr (seqT_same e2 ha), (L0.length : Int), (by rw [hl]), by omega, by omega, ?_⟩
    refine for_range (lo := 0) (n := (L0.length : Int).toNat) (fun i σ H' => ∃ (la : Addr) (ps vs : List V) (L : List Pr) (done : List Rw) (o3 o4 o5 o6 o7 o8 : Option V), σ = [some (.ref a), some (.ref la), some (.ref ma), o3, o4, o5, o6, o7, o8] ∧ RwS K H L0 L0.length i la ma ps vs L done H') ?_ ?_ ?_
    · refine ⟨la, acc, [], unl L0, [], _, _, _, _, _, _, rfl, e2, hla, hma0, nlm, ?_, upd_same, ?_, .nil, unl_goodP hasc, rfl, List.length_filter_le _ _, Nat.zero_le _⟩
      · rw [upd_ne nlm]; exact eA
      · rw [nol_newl hma]; exact hA
    · rintro i σ H2 hi ⟨la, ps, vs, L, done, o3, o4, o5, o6, o7, o8, rfl, S⟩
      have hi2 : i < L0.length := by omega
      have lps : ps.length = L.length := by rw [dp_len S.dl, List.length_map]
      have lvs : vs.length = done.length := by rw [dp_len S.dm, List.length_map]
      have Llen := S.len
      have Dlen := S.dn
      -- the froms
      refine ⟨_, rfl, la, rfl, ⟨_, SqL.of S.el⟩, fun fD hfD => ?_⟩
      refine lc_list (K := K) (a := la) (xs := ps) (fun j H3 => Same H2 H3 ∧ nol H3 = nol H2 ∧ H3 fD = some (.lst (iV (froms (L.take j))))) ?_ ?_ ?_ ?_
      · exact ⟨same_new hfD _, nol_newl hfD, upd_same⟩
      · rintro j H3 _ ⟨e3, _⟩
        exact SqL.of (e3 _ _ S.el)
      · rintro j z H3 hjz ⟨e3, n3, eF⟩
        obtain ⟨q, t, hq, rfl, ht⟩ := prs_get S.dl hjz
        have ht' : SqT K H3 t [.int q.1, .int q.2] := seqT_same nol_le (n3 ▸ ht)
        have hj : j < ps.length := (List.getElem?_eq_some_iff.mp hjz).1
        refine ⟨rfl, ?_⟩
        refine ⟨_, rfl, t, _, _, _, rfl, rfl, ht', at2.2, ?_⟩
        refine ⟨_, eF, (by rw [iV_len]; unfold froms; rw [List.length_map, List.length_take]; exact szl (by omega)), same_mut e3 hfD, by rw [nol_mut eF]; exact n3, ?_⟩
        rw [upd_same, iV_app, List.take_succ, hq]
        unfold froms
        rw [List.map_append]
        rfl
      · rintro H3 ⟨e3, n3, eF⟩
        rw [lps, List.take_length] at eF
        have el3 := e3 _ _ S.el
        have em3 := e3 _ _ S.em
        have nfl : fD ≠ la := fun z => by rw [z, S.el] at hfD; cases hfD
        have nfm : fD ≠ ma := fun z => by rw [z, S.em] at hfD; cases hfD
        have dl3 : DpAll K (nol H3) ps (L.map prD) := n3 ▸ S.dl
        have dm3 : DpAll K (nol H3) vs (done.map rwD) := n3 ▸ S.dm
        have s3 : Same H H3 := S.same.trans e3
        -- the free ones
        refine ⟨_, rfl, la, rfl, ⟨_, SqL.of el3⟩, fun D2 hD2 => ?_⟩
        refine lc_list (K := K) (a := la) (xs := ps) (fun j H4 => Same H3 H4 ∧ nol H4 = nol H3 ∧ ∃ acc, H4 D2 = some (.lst acc) ∧ DpAll K (nol H3) acc ((fr (froms L) (L.take j)).map prD) ∧ acc.length ≤ j) ?_ ?_ ?_ ?_
        · exact ⟨same_new hD2 _, nol_newl hD2, [], upd_same, .nil, Nat.le_refl _⟩
        · rintro j H4 _ ⟨e4, _⟩
          exact SqL.of (e4 _ _ el3)
        · rintro j z H4 hjz ⟨e4, n4, acc, eA, hA, lA⟩
          obtain ⟨q, t, hq, rfl, ht⟩ := prs_get dl3 hjz
          have ht' : SqT K H4 t [.int q.1, .int q.2] := seqT_same nol_le (n4 ▸ ht)
          have hj : j < ps.length := (List.getElem?_eq_some_iff.mp hjz).1
          refine ⟨rfl, ?_⟩
          refine ⟨_, rfl, t, _, _, _, rfl, rfl, ht', at2.1, _, rfl, fD, iV (froms L), rfl, .inl (SqL.of (e4 _ _ eF)), rfl, all_flat (froms L), _, rfl, ?_⟩
          have ek : L.take (j + 1) = L.take j ++ [q] := by rw [List.take_succ, hq]; rfl
          rw [ek, fr_snoc]
          have ei : inV (.int q.1) (iV (froms L)) = decide (q.1 ∈ froms L) := inV_ints
          by_cases c : q.1 ∈ froms L
          · refine ifF (by show (!inV (.int q.1) (iV (froms L))) = false; rw [ei, decide_eq_true c]; rfl) ?_
            rw [if_pos c, List.append_nil]
            exact ⟨e4, n4, acc, eA, hA, by omega⟩
          · refine ifT (by show (!inV (.int q.1) (iV (froms L))) = true; rw [ei, decide_eq_false c]; rfl) ?_
            rw [if_neg c]
            refine ⟨_, rfl, acc, eA, szl (by omega), same_mut e4 hD2, by rw [nol_mut eA]; exact n4, acc ++ [.ref t], upd_same, ?_, by rw [List.length_append]; show _ + 1 ≤ _; omega⟩
            rw [List.map_append]
            exact dpAll_app hA (.tup ht (.cons (.int _) (.cons (.int _) .nil)))
        · rintro H4 ⟨e4, n4, acc, eA, hA, lA⟩
          rw [lps, List.take_length] at hA
          have hA2 : DpAll K (nol H4) acc ((freeOf L).map prD) := n4 ▸ hA
          have el4 := e4 _ _ el3
          have em4 := e4 _ _ em3
          have dl4 : DpAll K (nol H4) ps (L.map prD) := n4 ▸ dl3
          have dm4 : DpAll K (nol H4) vs (done.map rwD) := n4 ▸ dm3
          have s4 : Same H H4 := s3.trans e4
          have nDl : D2 ≠ la := fun z => by rw [z, el3] at hD2; cases hD2
          have nDm : D2 ≠ ma := fun z => by rw [z, em3] at hD2; cases hD2
          refine ⟨_, rfl, (!acc.isEmpty), .inl ⟨_, SqL.of eA, rfl⟩, ?_⟩
          have lacc := dp_len hA
          rw [List.length_map] at lacc
          cases ef : freeOf L with
          | cons q r2 =>
            have hs : stepR L = some ((true, q.1, q.2), without q.1 L) := by unfold stepR; rw [ef]
            obtain ⟨g2, l2⟩ := step_less S.g hs
            obtain ⟨mq, nq⟩ := free_mem ef
            obtain ⟨jx, hjx, hLj⟩ := idx_of mq
            rw [ef] at hA2
            rw [show fr (froms L) L = freeOf L from rfl, ef] at lacc
            match acc, eA, hA2, lacc with
            | y :: acc', eA, hA2, lacc =>
            refine iteT ?_
            obtain ⟨q', t0, hq', rfl, ht0⟩ := prs_get (L := q :: r2) hA2 (i := 0) rfl
            obtain rfl : q = q' := Option.some.inj hq'
            have ht0' : SqT K H4 t0 [.int q.1, .int q.2] := seqT_same nol_le ht0
            have at0 : atI (V.ref t0 :: acc') 0 = some (V.ref t0) := atI_nat (j := 0) rfl
            refine ⟨_, rfl, .inl ⟨rfl, _, SqL.of em4⟩, _, rfl, D2, _, _, _, rfl, rfl, SqL.of eA, at0, t0, _, _, _, rfl, rfl, ht0', at2.1, ?_⟩
            refine ⟨_, rfl, D2, _, _, _, rfl, rfl, SqL.of eA, at0, t0, _, _, _, rfl, rfl, ht0', at2.2, (by show 3 ≤ sizeLine; decide), fun t ht => ?_⟩
            have ntm : t ≠ ma := fun z => by rw [z, em4] at ht; cases ht
            have ntl : t ≠ la := fun z => by rw [z, el4] at ht; cases ht
            have ntD : t ≠ D2 := fun z => by rw [z, eA] at ht; cases ht
            refine ⟨ma, _, _, rfl, rfl, (by rw [upd_ne ntm.symm]; exact em4), szl (by omega), ?_⟩
            have eA5 : (upd (upd H4 t (.tup [.str "move", .int q.1, .int q.2])) ma (.lst (vs ++ [.ref t]))) D2 = some (.lst (V.ref t0 :: acc')) := by rw [upd_ne nDm, upd_ne ntD.symm]; exact eA
            have el5 : (upd (upd H4 t (.tup [.str "move", .int q.1, .int q.2])) ma (.lst (vs ++ [.ref t]))) la = some (.lst ps) := by rw [upd_ne S.ne, upd_ne ntl.symm]; exact el4
            have em5 : (upd H4 t (.tup [.str "move", .int q.1, .int q.2])) ma = some (.lst vs) := by rw [upd_ne ntm.symm]; exact em4
            have n5 : nol (upd (upd H4 t (.tup [.str "move", .int q.1, .int q.2])) ma (.lst (vs ++ [.ref t]))) = nol (upd H4 t (.tup [.str "move", .int q.1, .int q.2])) := nol_mut em5
            have sn5 : Same (nol H4) (nol (upd H4 t (.tup [.str "move", .int q.1, .int q.2]))) := nol_same (same_new ht _)
            have em6 : (upd (upd H4 t (.tup [.str "move", .int q.1, .int q.2])) ma (.lst (vs ++ [.ref t]))) ma = some (.lst (vs ++ [.ref t])) := upd_same
            have s5 : Same H (upd (upd H4 t (.tup [.str "move", .int q.1, .int q.2])) ma (.lst (vs ++ [.ref t]))) := same_mut (s4.trans (same_new ht _)) S.nm
            have row : Dp K (nol (upd H4 t (.tup [.str "move", .int q.1, .int q.2]))) (.ref t) (rwD (true, q.1, q.2)) := dp_row true q.1 q.2 (nol_at upd_same fun _ z => nomatch z)
            generalize (upd (upd H4 t (.tup [.str "move", .int q.1, .int q.2])) ma (.lst (vs ++ [.ref t]))) = G5 at *
            rw [← n5] at sn5 row
            have ht5 : SqT K G5 t0 [.int q.1, .int q.2] := seqT_same nol_le (seqT_same sn5 ht0)
            have dl5 : DpAll K (nol G5) ps (L.map prD) := dpAll_same sn5 dl4
            refine ⟨_, rfl, .inl ⟨rfl, _, SqL.of el5⟩, _, rfl, D2, _, _, _, rfl, rfl, SqL.of eA5, at0, la, ps, L.map prD, .ref t0, prD q, jx, rfl, rfl, el5, dpAll_same nol_le dl5, .tup ht5 (.cons (.int _) (.cons (.int _) .nil)), plain_prs L, rfl, ?_, hjx, ?_⟩
            · exact Nat.le_trans (Nat.min_le_right _ _) (depth_pr q)
            · have n6 : nol (upd G5 la (.lst (ps.eraseIdx jx))) = nol G5 := nol_mut el5
              refine ⟨la, ps.eraseIdx jx, vs ++ [.ref t], without q.1 L, done ++ [(true, q.1, q.2)], _, _, _, _, _, _, rfl, same_mut s5 S.nl, S.nl, S.nm, S.ne, upd_same, ?_, ?_, ?_, g2, ?_, by omega, by rw [List.length_append]; show _ + 1 ≤ _; omega⟩
              · rw [upd_ne S.ne.symm]; exact em6
              · rw [n6, ← erase_without S.g.nodup hLj, ← map_erase]
                exact dp_erase jx dl5
              · rw [n6, List.map_append]
                exact dpAll_app (dpAll_same sn5 dm4) row
              · rw [← S.out, List.append_assoc]
                congr 1
                show (true, q.1, q.2) :: rowsN 1000 (without q.1 L) = rowsN 1000 L
                have : rowsN 1000 L = (true, q.1, q.2) :: rowsN 999 (without q.1 L) := by
                  show (match stepR L with | none => [] | some (r, L') => r :: rowsN 999 L') = _
                  rw [hs]
                rw [this, rows_enough 1000 999 _ g2 (by omega) (by omega)]
          | nil =>
            rw [show fr (froms L) L = freeOf L from rfl, ef] at lacc
            match acc, eA, lacc with
            | [], eA, lacc =>
            refine iteF ?_
            refine ⟨_, rfl, (!ps.isEmpty), .inl ⟨_, SqL.of el4, rfl⟩, ?_⟩
            cases L with
            | nil =>
              match ps, lps, el4, dl4 with
              | [], _, el4, dl4 =>
              refine iteF ?_
              exact ⟨la, [], vs, [], done, _, _, _, _, _, _, rfl, s4, S.nl, S.nm, S.ne, el4, em4, dl4, dm4, S.g, S.out, Nat.zero_le _, by omega⟩
            | cons p r =>
              have hs : stepR (p :: r) = some ((false, p.1, p.2), turned p.1 p.2 r) := by unfold stepR; rw [ef]
              obtain ⟨g2, l2⟩ := step_less S.g hs
              match ps, lps, el4, dl4 with
              | y :: ps', lps, el4, dl4 =>
              refine iteT ?_
              obtain ⟨p', t0, hp', rfl, ht0⟩ := prs_get (L := p :: r) dl4 (i := 0) rfl
              obtain rfl : p = p' := Option.some.inj hp'
              have ht0' : SqT K H4 t0 [.int p.1, .int p.2] := seqT_same nol_le ht0
              have at0 : atI (V.ref t0 :: ps') 0 = some (V.ref t0) := atI_nat (j := 0) rfl
              refine ⟨_, rfl, la, _, _, _, rfl, rfl, SqL.of el4, at0, ?_⟩
              refine ⟨_, rfl, .inl ⟨rfl, _, SqL.of em4⟩, _, rfl, t0, _, _, _, rfl, rfl, ht0', at2.1, _, rfl, t0, _, _, _, rfl, rfl, ht0', at2.2, (by show 3 ≤ sizeLine; decide), fun t ht => ?_⟩
              have ntm : t ≠ ma := fun z => by rw [z, em4] at ht; cases ht
              have ntl : t ≠ la := fun z => by rw [z, el4] at ht; cases ht
              refine ⟨ma, _, _, rfl, rfl, (by rw [upd_ne ntm.symm]; exact em4), szl (by omega), ?_⟩
              have el5 : (upd (upd H4 t (.tup [.str "swap", .int p.1, .int p.2])) ma (.lst (vs ++ [.ref t]))) la = some (.lst (V.ref t0 :: ps')) := by rw [upd_ne S.ne, upd_ne ntl.symm]; exact el4
              have em5 : (upd H4 t (.tup [.str "swap", .int p.1, .int p.2])) ma = some (.lst vs) := by rw [upd_ne ntm.symm]; exact em4
              have n5 : nol (upd (upd H4 t (.tup [.str "swap", .int p.1, .int p.2])) ma (.lst (vs ++ [.ref t]))) = nol (upd H4 t (.tup [.str "swap", .int p.1, .int p.2])) := nol_mut em5
              have sn5 : Same (nol H4) (nol (upd H4 t (.tup [.str "swap", .int p.1, .int p.2]))) := nol_same (same_new ht _)
              have em6 : (upd (upd H4 t (.tup [.str "swap", .int p.1, .int p.2])) ma (.lst (vs ++ [.ref t]))) ma = some (.lst (vs ++ [.ref t])) := upd_same
              have s5 : Same H (upd (upd H4 t (.tup [.str "swap", .int p.1, .int p.2])) ma (.lst (vs ++ [.ref t]))) := same_mut (s4.trans (same_new ht _)) S.nm
              have row : Dp K (nol (upd H4 t (.tup [.str "swap", .int p.1, .int p.2]))) (.ref t) (rwD (false, p.1, p.2)) := dp_row false p.1 p.2 (nol_at upd_same fun _ z => nomatch z)
              generalize (upd (upd H4 t (.tup [.str "swap", .int p.1, .int p.2])) ma (.lst (vs ++ [.ref t]))) = G5 at *
              rw [← n5] at sn5 row
              have ht5 : SqT K (nol G5) t0 [.int p.1, .int p.2] := seqT_same sn5 ht0
              have dl5 : DpAll K (nol G5) (V.ref t0 :: ps') ((p :: r).map prD) := dpAll_same sn5 dl4
              have dr5 : DpAll K (nol G5) ps' (r.map prD) := by cases dl5 with | cons _ b => exact b
              have dm5 := dpAll_app (dpAll_same sn5 dm4) row
              refine ⟨(by show 0 ≤ sizeLine; decide), fun ra hra => ?_⟩
              have era : (upd G5 ra (.lst [])) ra = some (.lst []) := upd_same
              have s6 : Same H (upd G5 ra (.lst [])) := s5.trans (same_new hra _)
              have hra0 : H ra = none := none_of s5 hra
              have n6 : nol (upd G5 ra (.lst [])) = nol G5 := nol_newl hra
              have nlr : la ≠ ra := fun z => by rw [← z, el5] at hra; cases hra
              have nmr : ma ≠ ra := fun z => by rw [← z, em6] at hra; cases hra
              have el6 : (upd G5 ra (.lst [])) la = some (.lst (V.ref t0 :: ps')) := by rw [upd_ne nlr]; exact el5
              have em7 : (upd G5 ra (.lst [])) ma = some (.lst (vs ++ [.ref t])) := by rw [upd_ne nmr]; exact em6
              generalize upd G5 ra (.lst []) = G6 at *
              refine ⟨_, rfl, _, rfl, la, _, rfl, SqL.of el6, fun sl hsl => ⟨sl, rfl, ⟨_, SqL.of upd_same⟩, ?_⟩⟩
              have hcut : cutV (V.ref t0 :: ps') (some 1) none = ps' := (cut_lo (n := 1)).trans rfl
              rw [hcut]
              have nsr : sl ≠ ra := fun z => by rw [z, era] at hsl; cases hsl
              have nsl0 : H sl = none := none_of s6 hsl
              have em8 : (upd G6 sl (.lst ps')) ma = some (.lst (vs ++ [.ref t])) := by rw [upd_ne (fun z => by rw [← z, em7] at hsl; cases hsl)]; exact em7
              have lr : ps'.length = r.length := by rw [dp_len dr5, List.length_map]
              simp only [List.length_cons] at Llen l2
              refine for_list (K := K) (a := sl) (xs := ps') (fun j σ H7 => ∃ (acc : List V) (o8 : Option V), σ = [some (.ref a), some (.ref la), some (.ref ma), some (.int (0 + (i : Int))), some (.ref fD), some (.ref D2), some (.ref t0), some (.ref ra), o8] ∧ Same H H7 ∧ H7 sl = some (.lst ps') ∧
                H7 ma = some (.lst (vs ++ [.ref t])) ∧ H7 ra = some (.lst acc) ∧ Same (nol G5) (nol H7) ∧ DpAll K (nol H7) acc ((turned p.1 p.2 (r.take j)).map prD) ∧ acc.length ≤ j) ?_ ?_ ?_ ?_
              · refine ⟨[], _, rfl, s6.trans (same_new hsl _), upd_same, em8, ?_, ?_, .nil, Nat.le_refl _⟩
                · rw [upd_ne nsr.symm]; exact era
                · rw [nol_newl hsl, n6]; exact Same.refl _
              · rintro j σ H7 _ ⟨acc, o8, _, _, es, _⟩
                exact SqL.of es
              · rintro j z σ H7 hjz ⟨acc, o8, rfl, s7, es, em9, er, n7, hA7, lA7⟩
                obtain ⟨q, tz, hq, rfl, hz⟩ := prs_get dr5 hjz
                have hz7 : SqT K H7 tz [.int q.1, .int q.2] := seqT_same nol_le (seqT_same n7 hz)
                have ht7 : SqT K H7 t0 [.int p.1, .int p.2] := seqT_same nol_le (seqT_same n7 ht5)
                have hj : j < ps'.length := (List.getElem?_eq_some_iff.mp hjz).1
                refine seq_midg (t1 := tIfS _ _ _) (fun σ' H8 => ∃ (tp : Addr) (pq : Pr), σ' = [some (.ref a), some (.ref la), some (.ref ma), some (.int (0 + (i : Int))), some (.ref fD), some (.ref D2), some (.ref t0), some (.ref ra), some (.ref tp)] ∧ Same H7 H8 ∧
                  SqT K H8 tp [.int pq.1, .int pq.2] ∧ SqT K (nol H8) tp [.int pq.1, .int pq.2] ∧ pq = (if q.2 = p.1 then (q.1, p.2) else q)) ?_ ?_
                · rintro σ' H8 ⟨tp, pq, rfl, s8, h8, h8n, epq⟩
                  have n8 := nol_same s8
                  have er8 := s8 _ _ er
                  refine ⟨_, rfl, tp, _, _, _, rfl, rfl, h8, at2.1, _, rfl, tp, _, _, _, rfl, rfl, h8, at2.2, rfl, _, rfl, ?_⟩
                  have ek : r.take (j + 1) = r.take j ++ [q] := by rw [List.take_succ, hq]; rfl
                  have et : turned p.1 p.2 (r.take j ++ [q]) = turned p.1 p.2 (r.take j) ++ (if pq.1 = pq.2 then [] else [pq]) := by
                    rw [turned_snoc, epq]
                    by_cases c : q.2 = p.1
                    · rw [if_pos c, if_pos c]
                    · rw [if_neg c, if_neg c]
                  by_cases c : pq.1 = pq.2
                  · refine ifF (ne_f c) ?_
                    refine ⟨acc, _, rfl, s7.trans s8, s8 _ _ es, s8 _ _ em9, er8, n7.trans n8, ?_, by omega⟩
                    rw [ek, et, if_pos c, List.append_nil]
                    exact dpAll_same n8 hA7
                  · refine ifT (ne_t c) ?_
                    refine ⟨_, rfl, .inl ⟨rfl, _, SqL.of er8⟩, _, rfl, ra, _, _, rfl, rfl, er8, szl (by omega), ?_⟩
                    have n9 : nol (upd H8 ra (.lst (acc ++ [.ref tp]))) = nol H8 := nol_mut er8
                    refine ⟨acc ++ [.ref tp], _, rfl, same_mut (s7.trans s8) hra0, ?_, ?_, upd_same, ?_, ?_, by rw [List.length_append]; show _ + 1 ≤ _; omega⟩
                    · rw [upd_ne nsr]; exact s8 _ _ es
                    · rw [upd_ne nmr]; exact s8 _ _ em9
                    · rw [n9]; exact n7.trans n8
                    · rw [n9, ek, et, if_neg c, List.map_append]
                      exact dpAll_app (dpAll_same n8 hA7) (.tup h8n (.cons (.int _) (.cons (.int _) .nil)))
                · intro nx hnx
                  refine ⟨_, rfl, tz, _, _, _, rfl, rfl, hz7, at2.2, _, rfl, t0, _, _, _, rfl, rfl, ht7, at2.1, rfl, _, rfl, ?_⟩
                  by_cases c : q.2 = p.1
                  · refine ifT (decide_eq_true (congrArg V.int c)) ?_
                    refine ⟨_, rfl, tz, _, _, _, rfl, rfl, hz7, at2.1, _, rfl, t0, _, _, _, rfl, rfl, ht7, at2.2, (by show 2 ≤ sizeLine; decide), fun tn htn => ?_⟩
                    exact hnx _ _ ⟨tn, (q.1, p.2), rfl, same_new htn _, SqT.of upd_same, SqT.of (nol_at upd_same fun _ z => nomatch z), by rw [if_pos c]⟩
                  · refine ifF (decide_eq_false fun z => c (V.int.inj z)) ?_
                    exact hnx _ _ ⟨tz, q, rfl, Same.refl _, hz7, seqT_nol hz7, by rw [if_neg c]⟩
              · rintro σ H7 ⟨acc, o8, rfl, s7, es, em9, er, n7, hA7, lA7⟩
                rw [lr, List.take_length] at hA7
                have : rowsN 1000 (p :: r) = (false, p.1, p.2) :: rowsN 999 (turned p.1 p.2 r) := by
                  show (match stepR (p :: r) with | none => [] | some (r, L') => r :: rowsN 999 L') = _
                  rw [hs]
                refine ⟨_, rfl, ra, acc, vs ++ [.ref t], turned p.1 p.2 r, done ++ [(false, p.1, p.2)], _, _, _, _, _, _, rfl, s7, hra0, S.nm, nmr.symm, er, em9, hA7, ?_, g2, ?_, by omega, by rw [List.length_append]; show _ + 1 ≤ _; omega⟩
                · rw [List.map_append]; exact dpAll_same n7 dm5
                · rw [← S.out, List.append_assoc, this, rows_enough 999 1000 _ g2 (by omega) (by omega)]
                  rfl
    · rintro σ H2 ⟨la, ps, vs, L, done, o3, o4, o5, o6, o7, o8, rfl, S⟩
      have Llen := S.len
      have L0' : L = [] := List.eq_nil_of_length_eq_zero (by omega)
      have out := S.out
      rw [L0', show rowsN 1000 [] = [] from rfl, List.append_nil] at out
      refine ⟨_, rfl, ma, _, rfl, .inl ⟨SqL.of S.em, fun t ht => ?_⟩⟩
      refine k t _ (S.same.trans (same_new ht _)) (.tup (SqT.of upd_same) ?_)
      rw [← out]
      exact dpAll_same (nol_le.trans (same_new ht _)) S.dm
end
end Lk

set_option Elab.async false
set_option linter.all false
set_option maxRecDepth 100000
set_option maxHeartbeats 4000000
namespace Lk
open PySem PySem.Spec PyProof.Rows L2
theorem not_take {l : List Int} (h : l.Nodup) {i : Nat} {x : Int} (e : l[i]? = some x) : x ∉ l.take i := fun m => by
  have il : i < l.length := (List.getElem?_eq_some_iff.mp e).1
  have e3 : l.take i ++ x :: l.drop (i + 1) = l := by
    have : l.drop i = x :: l.drop (i + 1) := by rw [List.drop_eq_getElem_cons il]; congr 1; exact Option.some.inj ((List.getElem?_eq_getElem il).symm.trans e)
    rw [← this, List.take_append_drop]
  rw [← e3] at h
  exact (List.nodup_append.mp h).2.2 x m x List.mem_cons_self rfl
theorem cnt_snoc {P : Int → Prop} (l : List Int) (x : Int) : (P x → cnt P (l ++ [x]) = cnt P l + 1) ∧ (¬ P x → cnt P (l ++ [x]) = cnt P l) := by
  refine ⟨fun h => ?_, fun h => ?_⟩
  · rw [cnt_app]; unfold cnt; unfold cnt; rw [if_pos h]; try omega
  · rw [cnt_app]; unfold cnt; unfold cnt; rw [if_neg h]; try omega
noncomputable def rings1 (L : List Pr) : Nat := cnt (Rep leI (nxt L)) (tos L)
def spCounts (K : PySem.W.Frag) : Sp := fun vs H Q _ => ∃ (x : V) (L : List Pr), vs = [x] ∧ Dp K H x (prsD L) ∧ (tos L).Pairwise (· < ·) ∧ L.length ≤ 40 ∧ ∀ p H', Same H H' → SqT K H' p [.int (unl L).length, .int (rings1 (unl L))] → Q (.ref p) H'
section
variable {P : Program} {w : World} {K : PySem.W.Frag} {mg : Str → Option Value} {base : Heap}
theorem ok_counts (T : Txt K mg) : FnOk P w K mg base CX0 1 T.f__law_counts T.d__law_counts ["_law_got"] (spCounts K) := by
  have nd := sc__law_counts.nd
  refine T.F__law_counts.ok sc__law_counts (fun vs H Q E h => ?_) (fun cdv A outer s H vs Q E hr h => ?_)
  · obtain ⟨x, L, rfl, _⟩ := h
    rfl
  obtain ⟨x, L0, rfl, hd, hasc, hL, k⟩ := h
  refine ⟨_, (pss_cons (ps_set (i := 1) nd rfl (Or.inl rfl) pe_dnewK)
      (pss_cons (ps_for PassesOwn.never rfl (pi_tup (pv 0)) (pg_name (i := 2) nd rfl (Or.inl rfl))
      (pss_one (ps_if (pt_cmpR op_ne (pe_ix ix_tup (pv 2) pe_int (fun _ _ => rfl)) (pe_ix ix_tup (pv 2) pe_int (fun _ _ => rfl)) (nomark _)) (pss_one (ps_dput (hu1 hr) (pv 1) (pe_ix ix_tup (pv 2) pe_int (fun _ _ => rfl)) (pe_ix ix_tup (pv 2) pe_int (fun _ _ => rfl)) rfl)) pss_nil)))
      (pss_cons (ps_set (i := 3) nd rfl (Or.inl rfl) pe_int)
      (pss_cons (ps_for PassesOwn.never rfl (pi_list (pe_callB (call_sortedDI (by rfl)) (by rfl) T.z_sorted (by decide +kernel) (pa_cons (pv 1) pa_nil))) (pg_name (i := 4) nd rfl (Or.inl rfl))
      (pss_cons (ps_set (i := 5) nd rfl (Or.inl rfl) (pe_dget (hu1 hr) (pv 1) (pv 4) (fun _ _ => rfl)))
      (pss_cons (ps_set (i := 6) nd rfl (Or.inl rfl) (pv 4))
      (pss_cons (ps_for PassesOwn.never rfl (pi_range1 (by rfl) T.z_range (pa_cons (pe_callB call_lenD (by rfl) T.z_len PySem.boot_len (pa_cons (pv 1) pa_nil)) pa_nil)) (pg_name (i := 7) nd rfl (Or.inl rfl))
      (pss_one (ps_if (PW.pt (pw_and (pt_cmpR op_ne (pv 5) (pv 4) (nomark _)) (pw_and1 (pt_cmp (pc_din (hu1 hr) (pv 5) (pv 1)) (by rfl))))) (pss_cons (ps_set (i := 6) nd rfl (Or.inl rfl) (pe_callB (call_min2 rfl) (by rfl) T.z_min (by decide +kernel) (pa_cons (pv 6) (pa_cons (pv 5) pa_nil))))
      (pss_one (ps_set (i := 5) nd rfl (Or.inl rfl) (pe_dget (hu1 hr) (pv 1) (pv 5) (fun _ _ => rfl))))) pss_nil)))
      (pss_one (ps_if (PW.pt (pw_and (pt_cmpR op_eq (pv 5) (pv 4) (nomark _)) (pw_and1 (pt_cmpR op_eq (pv 6) (pv 4) (nomark _))))) (pss_one (ps_set (i := 3) nd rfl (Or.inl rfl) (pe_op op_add (pv 3) pe_int))) pss_nil))))))
      (pss_one (ps_ret (pe_tup (pa_cons (pe_callB call_lenD (by rfl) T.z_len PySem.boot_len (pa_cons (pv 1) pa_nil)) (pa_cons (pv 3) pa_nil))))))))), ?_⟩
  obtain ⟨a, xs, rfl, ha, hx⟩ := tup_inv hd
  have hl : xs.length = L0.length := by rw [dp_len hx, List.length_map]
  refine fun so hso => ?_
  have s1 : Same H (upd H so (.dK [])) := same_new hso _
  refine ⟨_, rfl, a, rfl, ⟨_, seqT_same s1 ha⟩, ?_⟩
  refine for_tup (K := K) (a := a) (xs := xs) (fun i σ H' => ∃ o2, σ = [some (.ref a), some (.ref so), o2, none, none, none, none, none] ∧ Same H H' ∧ H' so = some (.dK (dkv (unl (L0.take i))))) ?_ ?_ ?_ ?_
  · exact ⟨none, rfl, s1, upd_same⟩
  · rintro i σ H' _ ⟨o2, _, e, _⟩
    exact seqT_same e ha
  · rintro i z σ H' hiz ⟨o2, rfl, e, eS⟩
    obtain ⟨q, t, hq, rfl, ht⟩ := prs_get hx hiz
    have ht' := seqT_same e ht
    have ek : L0.take (i + 1) = L0.take i ++ [q] := by rw [List.take_succ, hq]; rfl
    refine ⟨_, rfl, t, _, _, _, rfl, rfl, ht', at2.1, _, rfl, t, _, _, _, rfl, rfl, ht', at2.2, rfl, _, rfl, ?_⟩
    by_cases c : q.1 = q.2
    · refine ifF (ne_f c) ?_
      refine ⟨_, rfl, e, ?_⟩
      rw [ek, unl_snoc, if_pos c, List.append_nil]; exact eS
    · refine ifT (ne_t c) ?_
      have hno : q.1 ∉ tos (unl (L0.take i)) := fun m => by
        have hti : (tos L0)[i]? = some q.1 := by unfold tos; rw [List.getElem?_map, hq]; rfl
        refine not_take (hasc.imp fun h => by omega) hti ?_
        obtain ⟨p, hp, e⟩ := List.mem_map.mp m
        rw [show (tos L0).take i = tos (L0.take i) by unfold tos; rw [List.map_take]]
        exact List.mem_map.mpr ⟨p, (List.mem_filter.mp hp).1, e⟩
      have hvn : valV (dkv (unl (L0.take i))) (Sum.inl q.1) = none := by rw [valV_nxt, nxt_none hno]; rfl
      refine ⟨_, rfl, t, _, _, _, rfl, rfl, ht', at2.2, _, rfl, _, rfl, t, _, _, _, rfl, rfl, ht', at2.1, so, _, rfl, DPut.k (k := Sum.inl q.1) eS ?_, ?_⟩
      · rw [dkv_len]
        refine szl (Nat.le_trans (List.length_filter_le _ _) ?_)
        rw [List.length_take]; omega
      · rw [putK_new _ hvn]
        refine ⟨_, rfl, same_mut e hso, ?_⟩
        rw [upd_same, ek, unl_snoc, if_neg c, dkv_app]
        rfl
  · rintro σ H1 ⟨o2, rfl, e1, eS⟩
    rw [hl, List.take_length] at eS
    have hg := unl_goodP hasc
    have hlen : (unl L0).length ≤ 40 := Nat.le_trans (List.length_filter_le _ _) hL
    generalize unl L0 = L at *
    have htn := hg.nodup
    have htl : (tos L).length = L.length := List.length_map ..
    have hT : ∀ x, x ∈ tos L ↔ nxt L x ≠ none := fun x => by
      constructor
      · intro m z
        obtain ⟨y, hy⟩ := nxt_some htn m
        rw [z] at hy; cases hy
      · intro m
        by_cases c : x ∈ tos L
        · exact c
        · exact absurd (nxt_none c) m
    refine ⟨_, rfl, so, dkv L, tos L, rfl, .inl eS, ?_, by omega, fun ys sl hpm hso2 hsl => ⟨sl, rfl, ⟨_, SqL.of upd_same⟩, ?_⟩⟩
    · unfold dkv tos; rw [List.map_map, List.map_map]; rfl
    have e2 : Same H (upd H1 sl (.lst (ys.map V.int))) := e1.trans (same_new hsl _)
    have eS2 : (upd H1 sl (.lst (ys.map V.int))) so = some (.dK (dkv L)) := by rw [upd_ne (fun z => by rw [← z, eS] at hsl; cases hsl)]; exact eS
    have esl : (upd H1 sl (.lst (ys.map V.int))) sl = some (.lst (iV ys)) := upd_same
    generalize upd H1 sl (.lst (ys.map V.int)) = G at *
    have dg : ∀ z, DGet G so (.int z) ((nxt L z).map V.int) := fun z => by
      rw [← valV_nxt]
      exact .inl ⟨_, Sum.inl z, .inl eS2, rfl, rfl⟩
    refine for_list (K := K) (a := sl) (xs := iV ys) (fun i σ H' => ∃ o2 o4 o5 o6 o7, σ = [some (.ref a), some (.ref so), o2, some (.int (cnt (Rep leI (nxt L)) (ys.take i) : Nat)), o4, o5, o6, o7] ∧ H' = G) ?_ ?_ ?_ ?_
    · exact ⟨_, _, _, _, _, rfl, rfl⟩
    · rintro i σ H' _ ⟨_, _, _, _, _, _, rfl⟩
      exact SqL.of esl
    · rintro i z σ H' hiz ⟨o2, o4, o5, o6, o7, rfl, rfl⟩
      obtain ⟨st, hst, rfl⟩ := iV_get hiz
      have mst : st ∈ tos L := hpm.mem_iff.mp (List.mem_of_getElem? hst)
      obtain ⟨y, hy⟩ := nxt_some htn mst
      have dgs := dg st
      rw [hy] at dgs
      refine ⟨_, rfl, _, rfl, so, V.int y, rfl, dgs, ?_⟩
      refine ⟨_, rfl, ?_⟩
      refine ⟨_, rfl, so, dkv L, rfl, eS2, (L.length : Int), (by rw [dkv_len]), by omega, by omega, ?_⟩
      refine for_range (lo := 0) (n := (L.length : Int).toNat) (fun j σ H'' => ∃ (here least : Int) (os : List Int) (o7 : Option V), σ = [some (.ref a), some (.ref so), o2, some (.int (cnt (Rep leI (nxt L)) (ys.take i) : Nat)), some (.int st), some (.int here), some (.int least), o7] ∧ H'' = H' ∧
        Chain (nxt L) y os here ∧ st ∉ os ∧ least ≤ st ∧ (∀ x ∈ os, least ≤ x) ∧ (least = st ∨ least ∈ os) ∧ (os.length = j ∨ here = st ∨ here ∉ tos L)) ?_ ?_ ?_
      · exact ⟨y, st, [], _, rfl, rfl, .nil, (fun m => nomatch m), Int.le_refl _, (fun _ m => nomatch m), .inl rfl, .inl rfl⟩
      · rintro j σ H'' hj ⟨here, least, os, o7, rfl, rfl, ch, hs, h1, h2, h3, h4⟩
        refine ⟨_, rfl, _, rfl, rfl, _, rfl, ?_⟩
        by_cases c : here = st
        · refine ifF (ne_f c) ?_
          refine iteF ?_
          exact ⟨here, least, os, _, rfl, rfl, ch, hs, h1, h2, h3, .inr (.inl c)⟩
        · refine ifT (ne_t c) ?_
          refine ⟨_, rfl, _, rfl, so, _, rfl, dg here, _, rfl, ?_⟩
          cases hn : nxt L here with
          | none =>
            refine iteF ?_
            refine ⟨here, least, os, _, rfl, rfl, ch, hs, h1, h2, h3, .inr (.inr fun m => (hT here).mp m hn)⟩
          | some y2 =>
            refine iteT ?_
            have mh : here ∈ tos L := (hT here).mpr (by rw [hn]; exact fun z => nomatch z)
            have lo : os.length = j := h4.resolve_right fun z => z.elim c fun z => z mh
            refine ⟨_, rfl, _, rfl, _, _, rfl, ?_⟩
            have dgh := dg here
            rw [hn] at dgh
            refine ⟨_, rfl, _, rfl, so, V.int y2, rfl, dgh, ?_⟩
            refine ⟨y2, (if here < least then here else least), os ++ [here], _, rfl, rfl, .snoc ch hn, fun m => ?_, ?_, fun x mx => ?_, ?_, .inl (by rw [List.length_append, lo]; rfl)⟩
            · rcases List.mem_append.mp m with m | m
              · exact hs m
              · exact c (List.mem_singleton.mp m).symm
            · split <;> omega
            · rcases List.mem_append.mp mx with m | m
              · have := h2 x m; split <;> omega
              · rw [List.mem_singleton.mp m]; split <;> omega
            · by_cases d : here < least
              · rw [if_pos d]; exact .inr (List.mem_append_right _ List.mem_cons_self)
              · rw [if_neg d]; exact h3.imp id (List.mem_append_left _)
      · rintro σ H'' ⟨here, least, os, o7, rfl, rfl, ch, hs, h1, h2, h3, h4⟩
        have rep := laps_rep hT hy ch hs h1 h2 h3 (by rw [htl]; exact h4.imp (fun e => by rw [e]; omega) id)
        have ek : ys.take (i + 1) = ys.take i ++ [st] := by rw [List.take_succ, hst]; rfl
        obtain ⟨c1, c2⟩ := cnt_snoc (P := Rep leI (nxt L)) (ys.take i) st
        rw [ek]
        refine ⟨_, rfl, _, rfl, rfl, _, rfl, ?_⟩
        by_cases d1 : here = st
        · refine ifT (decide_eq_true (congrArg V.int d1)) ?_
          refine ⟨_, rfl, _, rfl, rfl, ?_⟩
          by_cases d2 : least = st
          · refine ⟨_, rfl, ?_⟩
            refine ifT (decide_eq_true (congrArg V.int d2)) ?_
            refine ⟨_, rfl, _, _, rfl, rfl, ?_⟩
            rw [c1 (rep.mp ⟨d1, d2⟩)]
            exact ⟨o2, _, _, _, _, rfl, rfl⟩
          · refine ⟨_, rfl, ?_⟩
            refine ifF (decide_eq_false fun z => d2 (V.int.inj z)) ?_
            rw [c2 fun z => d2 (rep.mpr z).2]
            exact ⟨o2, _, _, _, _, rfl, rfl⟩
        · refine ifF (decide_eq_false fun z => d1 (V.int.inj z)) ?_
          refine iteF ?_
          rw [c2 fun z => d1 (rep.mpr z).1]
          exact ⟨o2, _, _, _, _, rfl, rfl⟩
    · rintro σ H' ⟨o2, o4, o5, o6, o7, rfl, rfl⟩
      rw [iV_len, List.take_length, cnt_perm hpm]
      refine ⟨_, rfl, so, dkv L, rfl, eS2, _, rfl, (by show 2 ≤ sizeLine; decide), fun p hp => ?_⟩
      rw [dkv_len]
      exact k p _ (e2.trans (same_new hp _)) (SqT.of upd_same)
end
end Lk

set_option Elab.async false
set_option linter.all false
set_option maxRecDepth 100000
set_option maxHeartbeats 4000000
namespace Lk
open PySem PySem.Spec PyProof.Rows L2 HT
/-! ### t[::-1] of a tuple: some of its items, no more than it has -/
section
variable {prog : Program} {w : World} {A : Around} {E : Value → Shared → Prop} {s : Shared}
theorem applied_rev {sl : Addr} {vl vu vs : Value} {n : Nat} {Q : Int × Int × Nat → Shared → Prop} (hs : s.heap.IsSliceOf sl vl vu vs) (pl : IsPart vl none) (pu : IsPart vu none) (ps : IsPart vs (some (-1)))
    (h : Q ((n : Int) - 1, -1, n) s) : wpAny (model prog w) A (Builtin.Slice.sliceApplied (.ref sl) (pure (n : Int))) Q E s := by
  obtain ⟨ob, h1, h2, h3⟩ := id hs
  unfold Builtin.Slice.sliceApplied Builtin.Slice.sliceFields
  refine wpAny_bind (wpAny_bind (wpAny_field h1 h3 (x := vl) rfl (wpAny_bind (wpAny_field h1 h3 (x := vu) rfl (wpAny_bind (wpAny_field h1 h3 (x := vs) rfl (wpAny_pure ?_)))))))
  refine wpAny_bind (slicePart_ ps ?_)
  show wpAny _ _ (if ((-1 : Int) == 0) = true then _ else _) _ _ s
  rw [if_neg (by decide)]
  refine wpAny_bind (slicePart_ pl (wpAny_bind (slicePart_ pu (wpAny_bind (wpAny_pure ?_)))))
  show wpAny _ _ (match Builtin.Slice.sliceAdjust none none (-1) (n : Int) with | (lo, hi) => pure (lo, (-1 : Int), Builtin.Slice.slicePlaces lo hi (-1))) _ _ s
  have e : Builtin.Slice.sliceAdjust none none (-1) (n : Int) = ((n : Int) - 1, -1) := by
    unfold Builtin.Slice.sliceAdjust
    simp
  rw [e]
  have e2 : Builtin.Slice.slicePlaces ((n : Int) - 1) (-1) (-1) = n := by
    unfold Builtin.Slice.slicePlaces
    rw [if_neg (show ¬ ((-1 : Int) > 0) by decide)]
    by_cases c : (n : Int) - 1 > -1
    · rw [if_pos c]
      have : ((n : Int) - 1 - -1 - 1) / (- -1) = (n : Int) - 1 := by
        rw [show (- -1 : Int) = 1 by decide, Int.ediv_one]; omega
      rw [this]; omega
    · rw [if_neg c]; omega
  show wpAny _ _ (pure ((n : Int) - 1, (-1 : Int), Builtin.Slice.slicePlaces ((n : Int) - 1) (-1) (-1))) _ _ s
  rw [e2]
  exact wpAny_pure h
def revPick (items : Array Value) : Array Value := ((List.range items.size).filterMap fun (m : Nat) => items[(((items.size : Int) - 1) + (m : Int) * (-1)).toNat]?).toArray
theorem revPick_size (items : Array Value) : (revPick items).size ≤ items.size := by
  unfold revPick
  rw [List.size_toArray]
  exact Nat.le_trans (List.length_filterMap_le _ _) (by rw [List.length_range]; exact Nat.le_refl _)
theorem getItem_tuple_rev {t sl : Addr} {items : Array Value} {vl vu vs : Value} {Q : Value → Shared → Prop} (ht : IsTup s.heap t items) (hs : s.heap.IsSliceOf sl vl vu vs) (pl : IsPart vl none) (pu : IsPart vu none) (ps : IsPart vs (some (-1)))
    (h : Q (.ref s.heap.objs.size) { s with heap := s.heap.push { cls := .type "tuple", data := .seq (revPick items) } }) (hsz : items.size ≤ sizeLine) : wpAny (model prog w) A (getItem (.ref t) (.ref sl)) Q E s := by
  have few : sizeOk (.seq (revPick items)) := Nat.le_trans (revPick_size items) hsz
  obtain ⟨ob, h1, h2, h3⟩ := id hs
  have hT : s.TypeIs (.ref sl) "slice" := ⟨ob, h1, h2⟩
  unfold getItem
  try with_reducible refine wpAny_holding ?_
  first | refine wpAny_bind (wpAny_pure ?_) | skip
  refine wpAny_bind (wpAny_sequenceKey ht.typeIs (by decide) (wpAny_bind (wpAny_callSpecial?_slot (name := Str.ofString "__getitem__") ht.typeIs PyProof.Rows.slot_tuple_getitem (wpAny_call_entry PyProof.Rows.slot_tuple_getitem ht.typeIs entry_tuple_getitem ?_ (args_tuple_getitem _ _)))))
  show wpAny _ _ (Builtin.Tuple.tupleItemsOf (.ref t) >>= _) _ _ s
  refine wpAny_bind (tupleItemsOf_ ht (wpAny_bind (wpAny_typeOf hT ?_)))
  rw [if_pos (by decide)]
  refine wpAny_bind (applied_rev hs pl pu ps ?_)
  have no : ¬ ((((items.size : Int) - 1) == 0 && (-1 : Int) == 1 && items.size == items.size) = true) := by
    rw [show ((-1 : Int) == 1) = false by decide, Bool.and_false, Bool.false_and]
    exact Bool.false_ne_true
  show wpAny _ _ (if (((items.size : Int) - 1) == 0 && (-1 : Int) == 1 && items.size == items.size) = true then _ else _) _ _ s
  rw [if_neg no]
  first
    | exact wpAny_bind (m := Builtin.Tuple.tupleExact _) (wpAny_newObj_type (wpAny_pure ⟨_, rfl, wpAny_pure h⟩) few)
    | exact wpAny_bind (m := Builtin.Tuple.tupleExact _) (wpAny_newObj_type (wpAny_bind (wpAny_pure (wpAny_pure ⟨_, rfl, wpAny_pure h⟩))) few)
    | exact wpAny_bind (wpAny_bind (m := Builtin.Tuple.tupleExact _) (wpAny_newObj_type (wpAny_pure (wpAny_pure ⟨_, rfl, wpAny_pure h⟩)) few))
    | exact wpAny_bind (wpAny_bind (m := Builtin.Tuple.tupleExact _) (wpAny_newObj_type (wpAny_pure ⟨_, rfl, wpAny_pure h⟩) few))
end
theorem vals_pick {xs : List V} {us : List Value} (r : Vals xs us) (f : Nat → Nat) : ∀ is : List Nat, Vals (is.filterMap fun m => xs[f m]?) (is.filterMap fun m => us[f m]?)
  | [] => .nil
  | i :: is => by
    have t := vals_pick r f is
    cases e : xs[f i]? with
    | none =>
      have e2 : us[f i]? = none := by
        rw [List.getElem?_eq_none_iff] at e ⊢
        rw [← r.length]; exact e
      simp only [List.filterMap_cons, e, e2]
      exact t
    | some x =>
      obtain ⟨u, e2, ru⟩ := r.get e
      simp only [List.filterMap_cons, e, e2]
      exact .cons ru t
theorem range_all {α : Type} : ∀ l : List α, (List.range l.length).filterMap (fun m => l[m]?) = l
  | [] => rfl
  | a :: r => by
    have i := range_all r
    rw [List.length_cons, List.range_succ_eq_map, List.filterMap_cons]
    simp only [List.getElem?_cons_zero, List.filterMap_map, Function.comp_def, List.getElem?_cons_succ]
    rw [i]
theorem fm_congr {α β : Type} {f g : α → Option β} : ∀ {l : List α}, (∀ m ∈ l, f m = g m) → l.filterMap f = l.filterMap g
  | [], _ => rfl
  | a :: r, h => by
    rw [List.filterMap_cons, List.filterMap_cons, h a List.mem_cons_self, fm_congr fun m hm => h m (List.mem_cons_of_mem _ hm)]
theorem pick_reverse {α : Type} (l : List α) : ((List.range l.length).filterMap fun (m : Nat) => l[(((l.length : Int) - 1) + (m : Int) * (-1)).toNat]?) = l.reverse := by
  have h := range_all l.reverse
  rw [List.length_reverse] at h
  refine Eq.trans (fm_congr fun m hm => ?_) h
  have hm' := List.mem_range.mp hm
  rw [List.getElem?_reverse hm']
  congr 1
  omega
def tRevT (K : PySem.W.Frag) (te : TE) : TE := fun σ H Q => te σ H fun x H1 => ∃ a xs, x = .ref a ∧ SqT K H1 a xs ∧ ∀ p, H1 p = none → Q (.ref p) (upd H1 p (.tup xs.reverse))
theorem pe_revT {X : Cx} {e : Expr} {te : TE} {k : Nat} {p1 p2 p3 pos : Pos} (he : PE X e te) : PE X (.Subscript e (.Slice none none (some (.UnaryOp .USub (.Constant (.int 1) k p1) p2)) p3) pos) (tRevT X.K te) := by
  refine ⟨fun pins s σ H Q I h => Subscript_ (thn (he.run pins s σ H _ I h) fun v s1 ⟨x, H1, I1, r1, a, xs, ex, hx, q⟩ => ?_)⟩
  subst ex
  cases r1
  have hst : PO X (some (.UnaryOp .USub (.Constant (.int 1) k p1) p2)) (tPart (tUn (rU fun i => .int (-i)) (tC (.int 1)))) := po_some (pe_un un_neg pe_int)
  refine wpAny_Slice (thn (po_none.run pins s1 σ H1 (fun o G => o = none ∧ G = H1) I1 ⟨rfl, rfl⟩) fun vl s2 ⟨l, H2, I2, pl, el, e2⟩ => ?_)
  subst el e2
  refine thn (po_none.run pins s2 σ H2 (fun o G => o = none ∧ G = H2) I2 ⟨rfl, rfl⟩) fun vu s3 ⟨u, H3, I3, pu, eu, e3⟩ => ?_
  subst eu e3
  refine thn (hst.run pins s3 σ H3 (fun o G => o = some (-1) ∧ G = H3) I3 ⟨1, rfl, -1, rfl, rfl, rfl⟩) fun vs s4 ⟨o, H4, I4, ps, eo, e4⟩ => ?_
  subst eo e4
  have I5 : Inv X pins σ H4 { s4 with heap := s4.heap.push { cls := .type "slice", data := .fields #[vl, vu, vs] } } := I4.kept (t' := s4.toks) fun b ob q => Heap.get?_push_of_some _ q
  obtain ⟨its, r, ht, hz⟩ := I5.tuple hx
  show wpAny (model X.prog X.w) X.A (subscriptTail e (.Slice none none (some (.UnaryOp .USub (.Constant (.int 1) k p1) p2)) p3) (.ref a) (.ref s4.heap.objs.size)) (EP X pins σ Q) X.xe { s4 with heap := s4.heap.push { cls := .type "slice", data := .fields #[vl, vu, vs] } }
  refine tail_any (ops := [.ref a, .ref s4.heap.objs.size]) ht.typeIs (PyProof.Rows.slot_tuple_getitem.lookup) ?_ (by with_unfolding_all rfl)
  have hlen := r.length
  refine getItem_tuple_rev ht (Heap.IsSliceOf.new _ vl vu vs) pl pu ps ?_ (by rw [List.size_toArray, ← hlen]; exact hz)
  have rv := vals_pick r (fun m => (((its.toArray.size : Int) - 1) + (m : Int) * (-1)).toNat) (List.range its.toArray.size)
  have ep : revPick its.toArray = ((List.range its.toArray.size).filterMap fun (m : Nat) => its[(((its.toArray.size : Int) - 1) + (m : Int) * (-1)).toNat]?).toArray := by
    unfold revPick
    congr 1
    refine congrArg (fun f => List.filterMap f _) (funext fun m => ?_)
    simp
  rw [ep]
  have lz : xs.reverse.length ≤ sizeLine := by rw [List.length_reverse]; exact hz
  have rv2 : Vals xs.reverse ((List.range its.toArray.size).filterMap fun (m : Nat) => its[(((its.toArray.size : Int) - 1) + (m : Int) * (-1)).toNat]?) := by
    have e := pick_reverse xs
    rw [List.size_toArray] at rv ⊢
    rw [← hlen] at rv ⊢
    rw [e] at rv
    exact rv
  refine ⟨.ref _, _, I5.laid (t' := s4.toks) (o := .tup xs.reverse) (fun b ob q => Heap.get?_push_of_some _ q) (Nat.le_refl _) ⟨lz, _, rv2, IsTup.new _ _⟩, rfl, q _ (I5.hok.fresh (Nat.le_refl _))⟩
end Lk

set_option Elab.async false
set_option linter.all false
set_option maxRecDepth 100000
set_option maxHeartbeats 4000000
namespace Lk
open PySem PySem.Spec PyProof.Rows L2
/-! ### displays: what they come to, as data -/
def EvD (K : PySem.W.Frag) (σ : L2.St) (H0 : Hp) (t : TE) (d : PyData) : Prop := ∀ (H : Hp) (Q : VK), Same H0 H → (∀ x H', Same H H' → Dp K H' x d → Q x H') → t σ H Q
def EvA (K : PySem.W.Frag) (σ : L2.St) (H0 : Hp) (t : TA) (ds : List PyData) : Prop := ∀ (H : Hp) (Q : List V → Hp → Prop), Same H0 H → (∀ xs H', Same H H' → DpAll K H' xs ds → Q xs H') → t σ H Q
section
variable {K : PySem.W.Frag} {σ : L2.St} {H0 : Hp}
theorem ev_int {i : Int} : EvD K σ H0 (tC (.int i)) (.int i) := fun _ _ _ k => k _ _ (Same.refl _) (.int i)
theorem ev_str {s : Str} : EvD K σ H0 (tC (.str s)) (.str s) := fun _ _ _ k => k _ _ (Same.refl _) (.str s)
theorem ev_bl {b : Bool} : EvD K σ H0 (tC (.bl b)) (.bool b) := fun _ _ _ k => k _ _ (Same.refl _) (.bl b)
theorem ev_non : EvD K σ H0 (tC .non) .none := fun _ _ _ k => k _ _ (Same.refl _) .non
theorem ev_neg {i : Int} : EvD K σ H0 (tUn (rU fun i => .int (-i)) (tC (.int i))) (.int (-i)) := fun _ _ _ k => ⟨i, rfl, k _ _ (Same.refl _) (.int (-i))⟩
theorem ev_var {i : Nat} {x : V} {d : PyData} (h : σ[i]? = some (some x)) (hd : Dp K H0 x d) : EvD K σ H0 (tVar i) d := fun _ _ e k => ⟨x, h, k x _ (Same.refl _) (dp_same e hd)⟩
theorem ea_nil : EvA K σ H0 tNil [] := fun _ _ _ k => k _ _ (Same.refl _) .nil
theorem ea_cons {t : TE} {ts : TA} {d : PyData} {ds : List PyData} (a : EvD K σ H0 t d) (b : EvA K σ H0 ts ds) : EvA K σ H0 (tCons t ts) (d :: ds) := fun H Q e k =>
  a H _ e fun x H1 e1 h1 => b H1 _ (e.trans e1) fun xs H2 e2 h2 => k (x :: xs) H2 (e1.trans e2) (.cons (dp_same e2 h1) h2)
theorem ev_tup {ts : TA} {ds : List PyData} (a : EvA K σ H0 ts ds) (n : ds.length ≤ 1000) : EvD K σ H0 (tTup ts) (.tuple ds) := fun H Q e k =>
  a H _ e fun xs H1 e1 h1 => ⟨by rw [dp_len h1]; exact Nat.le_of_lt (szl (by omega)), fun p hp => k _ _ (e1.trans (same_new hp _)) (.tup (SqT.of upd_same) (dpAll_same (same_new hp _) h1))⟩
theorem ev_lst {ts : TA} {ds : List PyData} (a : EvA K σ H0 ts ds) (n : ds.length ≤ 1000) : EvD K σ H0 (tLst ts) (.list ds) := fun H Q e k =>
  a H _ e fun xs H1 e1 h1 => ⟨by rw [dp_len h1]; exact Nat.le_of_lt (szl (by omega)), fun p hp => k _ _ (e1.trans (same_new hp _)) (.lst (SqL.of upd_same) (dpAll_same (same_new hp _) h1))⟩
theorem tup_of {H : Hp} {x : V} {ds : List PyData} (h : Dp K H x (.tuple ds)) : ∃ (a : Addr) (xs : List V), x = .ref a ∧ SqT K H a xs ∧ DpAll K H xs ds := by
  cases h with
  | tup h a => exact ⟨_, _, rfl, h, a⟩
theorem lst_of {H : Hp} {x : V} {ds : List PyData} (h : Dp K H x (.list ds)) : ∃ (a : Addr) (xs : List V), x = .ref a ∧ SqL K H a xs ∧ DpAll K H xs ds := by
  cases h with
  | lst h a => exact ⟨_, _, rfl, h, a⟩
theorem dpAll_cat {H : Hp} : ∀ {xs ys : List V} {ds es : List PyData}, DpAll K H xs ds → DpAll K H ys es → DpAll K H (xs ++ ys) (ds ++ es)
  | _, _, _, _, .nil, h => h
  | _, _, _, _, .cons a b, h => .cons a (dpAll_cat b h)
theorem ev_cat {ta tb : TE} {ds es : List PyData} (a : EvD K σ H0 ta (.tuple ds)) (b : EvD K σ H0 tb (.tuple es)) (n : ds.length ≤ 1000) (m : es.length ≤ 1000) : EvD K σ H0 (tOp (rCatS K) ta tb) (.tuple (ds ++ es)) := fun H Q e k =>
  a H _ e fun x H1 e1 h1 => b H1 _ (e.trans e1) fun y H2 e2 h2 => by
    obtain ⟨p, xs, rfl, hp, hx⟩ := tup_of (dp_same e2 h1)
    obtain ⟨q, ys, rfl, hq, hy⟩ := tup_of h2
    refine ⟨p, q, xs, ys, rfl, rfl, hp, hq, by rw [dp_len hx, dp_len hy]; exact Nat.le_of_lt (szl (by omega)), fun r H3 e3 h3 => ?_⟩
    exact k _ _ ((e1.trans e2).trans e3) (.tup h3 (dpAll_cat (dpAll_same e3 hx) (dpAll_same e3 hy)))
theorem dpAll_drop {H : Hp} : ∀ {xs : List V} {ds : List PyData} (n : Nat), DpAll K H xs ds → DpAll K H (xs.drop n) (ds.drop n)
  | _, _, 0, h => h
  | _, _, n + 1, .nil => .nil
  | _, _, n + 1, .cons a b => dpAll_drop n b
theorem dpAll_takes {H : Hp} : ∀ {xs : List V} {ds : List PyData} (n : Nat), DpAll K H xs ds → DpAll K H (xs.take n) (ds.take n)
  | _, _, 0, h => .nil
  | _, _, n + 1, .nil => .nil
  | _, _, n + 1, .cons a b => .cons a (dpAll_takes n b)
theorem dpAll_reverse {H : Hp} : ∀ {xs : List V} {ds : List PyData}, DpAll K H xs ds → DpAll K H xs.reverse ds.reverse
  | _, _, .nil => .nil
  | x :: xs, d :: ds, .cons a b => by
    rw [List.reverse_cons, List.reverse_cons]
    exact dpAll_app (dpAll_reverse b) a
theorem ev_rev {ta : TE} {ds : List PyData} (a : EvD K σ H0 ta (.tuple ds)) : EvD K σ H0 (tRevT K ta) (.tuple ds.reverse) := fun H Q e k =>
  a H _ e fun x H1 e1 h1 => by
    obtain ⟨p, xs, rfl, hp, hx⟩ := tup_of h1
    refine ⟨p, xs, rfl, hp, fun q hq => ?_⟩
    exact k _ _ (e1.trans (same_new hq _)) (.tup (SqT.of upd_same) (dpAll_same (same_new hq _) (dpAll_reverse hx)))
theorem ev_list {ta : TE} {ds : List PyData} (a : EvD K σ H0 ta (.tuple ds)) : EvD K σ H0 (tCB (fun xs H Q => ∃ p ys, xs = [V.ref p] ∧ (SqL K H p ys ∨ SqT K H p ys) ∧ ∀ l, H l = none → Q (.ref l) (upd H l (.lst ys))) (tCons ta tNil)) (.list ds) := fun H Q e k =>
  a H _ e fun x H1 e1 h1 => by
    obtain ⟨p, xs, rfl, hp, hx⟩ := tup_of h1
    refine ⟨p, xs, rfl, .inr hp, fun q hq => ?_⟩
    exact k _ _ (e1.trans (same_new hq _)) (.lst (SqL.of upd_same) (dpAll_same (same_new hq _) hx))
theorem ev_cut {ta : TE} {ds : List PyData} (a : EvD K σ H0 ta (.tuple ds)) : EvD K σ H0 (tSl (rSlS K) ta (tPart (tUn (rU fun i => .int (-i)) (tC (.int 1)))) tNoPart) (.tuple ((ds.drop (HT.sIx ds.length 0 (some (-1)))).take (HT.sIx ds.length ds.length none - HT.sIx ds.length 0 (some (-1))))) := fun H Q e k =>
  a H _ e fun x H1 e1 h1 => by
    obtain ⟨p, xs, rfl, hp, hx⟩ := tup_of h1
    refine ⟨1, rfl, -1, rfl, p, xs, rfl, hp, fun q H2 e2 h2 => ?_⟩
    refine k _ _ (e1.trans e2) (.tup h2 ?_)
    unfold cutV
    rw [dp_len hx]
    exact dpAll_takes _ (dpAll_drop _ (dpAll_same e2 hx))
theorem ev_add {ta tb : TE} {i j : Int} (a : EvD K σ H0 ta (.int i)) (b : EvD K σ H0 tb (.int j)) : EvD K σ H0 (tOp (rI0 fun i j => .int (i + j)) ta tb) (.int (i + j)) := fun H Q e k =>
  a H _ e fun x H1 e1 h1 => b H1 _ (e.trans e1) fun y H2 e2 h2 => by
    cases h1; cases h2
    exact ⟨_, _, rfl, rfl, k _ _ (e1.trans e2) (.int _)⟩
theorem goS {t : TE} {rest : TS} {D : Ends} {i : Nat} {d : PyData} (e : EvD K σ H0 t d) (k : ∀ x H', Same H0 H' → Dp K H' x d → rest D (σ.set i (some x)) H') : tSeq (tAsg t (gName i)) rest D σ H0 := e H0 _ (Same.refl _) k
end
/-! ### the same, away from a list at l -/
def EvE (K : PySem.W.Frag) (l : Addr) (σ : L2.St) (H0 : Hp) (t : TE) (d : PyData) : Prop := ∀ (H : Hp) (Q : VK), Same H0 H → (∀ x H', Same H H' → Dp K (del H' l) x d → Q x H') → t σ H Q
def EaE (K : PySem.W.Frag) (l : Addr) (σ : L2.St) (H0 : Hp) (t : TA) (ds : List PyData) : Prop := ∀ (H : Hp) (Q : List V → Hp → Prop), Same H0 H → (∀ xs H', Same H H' → DpAll K (del H' l) xs ds → Q xs H') → t σ H Q
section
variable {K : PySem.W.Frag} {l : Addr} {σ : L2.St} {H0 : Hp}
theorem off_new {H H1 : Hp} {zs : List V} {p : Addr} {o : HO} (hl : H l = some (.lst zs)) (e : Same H H1) (hp : H1 p = none) : p ≠ l ∧ (del (upd H1 p o) l) p = some o := by
  have n : p ≠ l := fun z => by rw [z, e _ _ hl] at hp; cases hp
  exact ⟨n, by rw [del_ne n]; exact upd_same⟩
theorem ee_int {i : Int} : EvE K l σ H0 (tC (.int i)) (.int i) := fun _ _ _ k => k _ _ (Same.refl _) (.int i)
theorem ee_str {s : Str} : EvE K l σ H0 (tC (.str s)) (.str s) := fun _ _ _ k => k _ _ (Same.refl _) (.str s)
theorem ee_bl {b : Bool} : EvE K l σ H0 (tC (.bl b)) (.bool b) := fun _ _ _ k => k _ _ (Same.refl _) (.bl b)
theorem ee_non : EvE K l σ H0 (tC .non) .none := fun _ _ _ k => k _ _ (Same.refl _) .non
theorem ee_neg {i : Int} : EvE K l σ H0 (tUn (rU fun i => .int (-i)) (tC (.int i))) (.int (-i)) := fun _ _ _ k => ⟨i, rfl, k _ _ (Same.refl _) (.int (-i))⟩
theorem ee_var {i : Nat} {x : V} {d : PyData} (h : σ[i]? = some (some x)) (hd : Dp K (del H0 l) x d) : EvE K l σ H0 (tVar i) d := fun _ _ e k => ⟨x, h, k x _ (Same.refl _) (dp_same (same_del l e) hd)⟩
theorem eb_nil : EaE K l σ H0 tNil [] := fun _ _ _ k => k _ _ (Same.refl _) .nil
theorem eb_cons {t : TE} {ts : TA} {d : PyData} {ds : List PyData} (a : EvE K l σ H0 t d) (b : EaE K l σ H0 ts ds) : EaE K l σ H0 (tCons t ts) (d :: ds) := fun H Q e k =>
  a H _ e fun x H1 e1 h1 => b H1 _ (e.trans e1) fun xs H2 e2 h2 => k (x :: xs) H2 (e1.trans e2) (.cons (dp_same (same_del l e2) h1) h2)
theorem ee_tup {ts : TA} {ds : List PyData} {zs : List V} (hl : H0 l = some (.lst zs)) (a : EaE K l σ H0 ts ds) (n : ds.length ≤ 1000) : EvE K l σ H0 (tTup ts) (.tuple ds) := fun H Q e k =>
  a H _ e fun xs H1 e1 h1 => ⟨by rw [dp_len h1]; exact Nat.le_of_lt (szl (by omega)), fun p hp => k _ _ (e1.trans (same_new hp _)) (.tup (SqT.of (off_new hl (e.trans e1) hp).2) (dpAll_same (same_del l (same_new hp _)) h1))⟩
theorem ee_lst {ts : TA} {ds : List PyData} {zs : List V} (hl : H0 l = some (.lst zs)) (a : EaE K l σ H0 ts ds) (n : ds.length ≤ 1000) : EvE K l σ H0 (tLst ts) (.list ds) := fun H Q e k =>
  a H _ e fun xs H1 e1 h1 => ⟨by rw [dp_len h1]; exact Nat.le_of_lt (szl (by omega)), fun p hp => k _ _ (e1.trans (same_new hp _)) (.lst (SqL.of (off_new hl (e.trans e1) hp).2) (dpAll_same (same_del l (same_new hp _)) h1))⟩
theorem ee_cat {ta tb : TE} {ds es : List PyData} {zs : List V} (hl : H0 l = some (.lst zs)) (a : EvE K l σ H0 ta (.tuple ds)) (b : EvE K l σ H0 tb (.tuple es)) (n : ds.length ≤ 1000) (m : es.length ≤ 1000) : EvE K l σ H0 (tOp (rCatS K) ta tb) (.tuple (ds ++ es)) := fun H Q e k =>
  a H _ e fun x H1 e1 h1 => b H1 _ (e.trans e1) fun y H2 e2 h2 => by
    obtain ⟨p, xs, rfl, hp, hx⟩ := tup_of (dp_same (same_del l e2) h1)
    obtain ⟨q, ys, rfl, hq, hy⟩ := tup_of h2
    refine ⟨p, q, xs, ys, rfl, rfl, seqT_same (del_le _ l) hp, seqT_same (del_le _ l) hq, by rw [dp_len hx, dp_len hy]; exact Nat.le_of_lt (szl (by omega)), fun r H3 e3 h3 => ?_⟩
    exact k _ _ ((e1.trans e2).trans e3) (.tup (seqT_off h3 ((((e.trans e1).trans e2).trans e3) _ _ hl)) (dpAll_cat (dpAll_same (same_del l e3) hx) (dpAll_same (same_del l e3) hy)))
theorem ee_rev {ta : TE} {ds : List PyData} {zs : List V} (hl : H0 l = some (.lst zs)) (a : EvE K l σ H0 ta (.tuple ds)) : EvE K l σ H0 (tRevT K ta) (.tuple ds.reverse) := fun H Q e k =>
  a H _ e fun x H1 e1 h1 => by
    obtain ⟨p, xs, rfl, hp, hx⟩ := tup_of h1
    refine ⟨p, xs, rfl, seqT_same (del_le _ l) hp, fun q hq => ?_⟩
    exact k _ _ (e1.trans (same_new hq _)) (.tup (SqT.of (off_new hl (e.trans e1) hq).2) (dpAll_same (same_del l (same_new hq _)) (dpAll_reverse hx)))
theorem ee_list {ta : TE} {ds : List PyData} {zs : List V} (hl : H0 l = some (.lst zs)) (a : EvE K l σ H0 ta (.tuple ds)) : EvE K l σ H0 (tCB (fun xs H Q => ∃ p ys, xs = [V.ref p] ∧ (SqL K H p ys ∨ SqT K H p ys) ∧ ∀ l, H l = none → Q (.ref l) (upd H l (.lst ys))) (tCons ta tNil)) (.list ds) := fun H Q e k =>
  a H _ e fun x H1 e1 h1 => by
    obtain ⟨p, xs, rfl, hp, hx⟩ := tup_of h1
    refine ⟨p, xs, rfl, .inr (seqT_same (del_le _ l) hp), fun q hq => ?_⟩
    exact k _ _ (e1.trans (same_new hq _)) (.lst (SqL.of (off_new hl (e.trans e1) hq).2) (dpAll_same (same_del l (same_new hq _)) hx))
theorem ee_cut {ta : TE} {ds : List PyData} {zs : List V} (hl : H0 l = some (.lst zs)) (a : EvE K l σ H0 ta (.tuple ds)) : EvE K l σ H0 (tSl (rSlS K) ta (tPart (tUn (rU fun i => .int (-i)) (tC (.int 1)))) tNoPart) (.tuple ((ds.drop (HT.sIx ds.length 0 (some (-1)))).take (HT.sIx ds.length ds.length none - HT.sIx ds.length 0 (some (-1))))) := fun H Q e k =>
  a H _ e fun x H1 e1 h1 => by
    obtain ⟨p, xs, rfl, hp, hx⟩ := tup_of h1
    refine ⟨1, rfl, -1, rfl, p, xs, rfl, seqT_same (del_le _ l) hp, fun q H2 e2 h2 => ?_⟩
    refine k _ _ (e1.trans e2) (.tup (seqT_off h2 (((e.trans e1).trans e2) _ _ hl)) ?_)
    unfold cutV
    rw [dp_len hx]
    exact dpAll_takes _ (dpAll_drop _ (dpAll_same (same_del l e2) hx))
theorem ee_add {ta tb : TE} {i j : Int} (a : EvE K l σ H0 ta (.int i)) (b : EvE K l σ H0 tb (.int j)) : EvE K l σ H0 (tOp (rI0 fun i j => .int (i + j)) ta tb) (.int (i + j)) := fun H Q e k =>
  a H _ e fun x H1 e1 h1 => b H1 _ (e.trans e1) fun y H2 e2 h2 => by
    cases h1; cases h2
    exact ⟨_, _, rfl, rfl, k _ _ (e1.trans e2) (.int _)⟩
theorem goE {t : TE} {rest : TS} {D : Ends} {i : Nat} {d : PyData} (e : EvE K l σ H0 t d) (k : ∀ x H', Same H0 H' → Dp K (del H' l) x d → rest D (σ.set i (some x)) H') : tSeq (tAsg t (gName i)) rest D σ H0 := e H0 _ (Same.refl _) k
end
theorem takes0N {X : Cx} : L2N.Takes X (fun _ _ _ _ => False) := fun _ _ x => by
  obtain ⟨_, _, _, _, _, _, _, _, _, _, _, _, _, _, _, _, z⟩ := x
  exact z.elim
end Lk

set_option Elab.async false
set_option linter.all false
set_option maxRecDepth 100000
set_option maxHeartbeats 4000000
namespace Lk
open PySem PySem.Spec PyProof.Rows L2 L2H HotX
/-- the call that hands the exception on, told without its object -/
def tCallE (sp : Addr × Obj → Sp) (a : Addr) (cls : Value) (d : Option Addr) (t : TA) : TE := fun σ H Q => t σ H fun vs H1 => ∀ oe, Zc cls d oe → (∃ ws, oe.data = .fields ws) → sp (a, oe) vs H1 Q E0
theorem pe_callE {X : Cx} {k : Nat} {f a : Addr} {fd : FuncData} {ps : List Str} {sp : Addr × Obj → Sp} {x : Str} {q pos : Pos} {e : Expr} {es : List Expr} {t : TA} {oe : Obj} {cls : Value} {d : Option Addr} {pn : List (Addr × Obj)}
    (F : FnP X.prog X.w X.K X.mg X.base k f fd ps sp) (hr : RoomH k (X.A.mark (some (.ref a)))) (hz : L2N.Zn cls d oe) (hf : ∃ vs, oe.data = .fields vs) (hg : Gl (X.suite a ((a, oe) :: pn)) x) (hm : X.mg x = some (.ref f)) (hk : PySem.W.keepIn X.K (.ref f) = true) (hb : Binds X.K fd ps [])
    (ha : PA (X.suite a ((a, oe) :: pn)) (e :: es) t) (hdb : (x == ("__debug__" : Str)) = false := by decide) (he : starEach (e :: es) X.env = (false, eval e X.env) :: starEach es X.env := by rfl) (hpl : (backTo pos (starEach es X.env)).any (·.1) = false := by rfl) :
    PE (X.suite a ((a, oe) :: pn)) (.Call (.Name x q) (e :: es) [] pos) (tCallE sp a cls d t) := by
  refine ⟨fun pins s σ H Q I h => wpAny_Call_Name_kw (ld_glob I hg hm (PySem.W.callWith_K (h₀ := X.base) I.ok.mod.kin hk (thn (ha.run pos pins s σ H _ I h) fun us s1 ⟨vs, H1, I1, r, q0⟩ => ⟨I1.kIn, ?_⟩) he hpl) hdb)⟩
  have q := q0 oe hz.zc hf
  have ln : us.length = ps.length := by rw [← r.length]; exact F.many _ _ _ _ _ q
  have b := hb s1 us I1.kIn (by rw [List.append_nil]; exact ln)
  rw [List.append_nil] at b
  obtain ⟨p1, p2, p3, p4, p5⟩ := I1.pin (a, oe) (List.mem_append_left _ List.mem_cons_self)
  have ok : PinOk X.stack H1 s1 (a, oe) := ⟨p1, p2, fun m => (List.mem_cons.mp (I1.stkSub a m)).elim p3 p4, p5⟩
  refine wpAny_call (codeAny_mono (F.goes (a, oe) _ X.stack s1 H1 ⟨us, []⟩ us vs Q E0 hr (hot_suite hz hf) ok I1.env0 b r q) fun o s2 ho => ?_)
  match o, ho with
  | .error _, ho => exact ho.elim
  | .ok (.ret _), ho => exact I1.after ho
  | .ok .next, ho => exact ho.elim
  | .ok .brk, ho => exact ho.elim
  | .ok .cont, ho => exact ho.elim
def spPairsR (K : PySem.W.Frag) : Sp := fun vs H Q _ => ∃ (x : V) (d : PyData) (n : Nat), vs = [x, .int n] ∧ Dp K H x d ∧ tlen d ≤ 1000 ∧ isT d = false ∧ ∀ H', Same H H' → Q (.bl true) H'
def spRowsR (K : PySem.W.Frag) : Sp := fun vs H Q _ => ∃ (n : Nat) (b : Addr) (ws : List Int), vs = [.int n, .ref b] ∧ n < 14 ∧ SqT K H b (iV ws) ∧ ws.length ≤ 1000 ∧ ∀ H', Same H H' → Q (.bl true) H'
def spThing (K : PySem.W.Frag) : Sp := fun vs H Q _ => ∃ (n : Nat) (x : V) (L : List Pr) (l : Addr) (zs : List V), vs = [.int n, x] ∧ n < 18 ∧ H l = some (.lst zs) ∧ Dp K (del H l) x (prsD L) ∧ L.length ≤ 40 ∧ ∀ y d H', Same H H' → Dp K (del H' l) y d → tlen d ≤ 1000 → Q y H'
section
variable {P : Program} {w : World} {K : PySem.W.Frag} {mg : Str → Option Value} {base : Heap}
theorem ok_thing (T : Txt K mg) : FnOk P w K mg base CX0 1 T.f__law_thing T.d__law_thing ["_law_number", "_law_got"] (spThing K) := by
  have nd := sc__law_thing.nd
  refine T.F__law_thing.ok sc__law_thing (fun vs H Q E h => ?_) (fun cdv A outer s H vs Q E hr h => ?_)
  · obtain ⟨n, x, L, l, zs, rfl, _⟩ := h
    rfl
  obtain ⟨n, x, L, l, zs, rfl, hn, hl0, hd, hL, k⟩ := h
  refine ⟨_, (pss_cons (ps_set (i := 2) nd rfl (Or.inl rfl) pe_int)
      (pss_cons (ps_set (i := 3) nd rfl (Or.inl rfl) (pe_lst (pa_cons (pe_op op_catS (pv 1) (pe_tup (pa_cons (pe_tup (pa_cons (pv 2) (pa_cons pe_int pa_nil))) (pa_cons (pe_tup (pa_cons (pv 2) (pa_cons pe_int pa_nil))) pa_nil)))) (pa_cons (pe_op op_catS (pv 1) (pe_slice sl_tupS (pv 1) (po_some (pe_un un_neg pe_int)) po_none)) (pa_cons (pe_callTy call_list_of (by rfl) T.z_list (by decide +kernel) (pa_cons (pv 1) pa_nil)) (pa_cons (by exact (pe_revT (pv 1))) (pa_cons (pe_op op_catS (pv 1) (pe_tup (pa_cons (pe_tup (pa_cons (pv 2) (pa_cons pe_bl pa_nil))) pa_nil))) (pa_cons (pe_op op_catS (pv 1) (pe_tup (pa_cons (pe_tup (pa_cons (pv 2) (pa_cons (pe_un un_neg pe_int) pa_nil))) pa_nil))) (pa_cons (pe_op op_catS (pv 1) (pe_tup (pa_cons (pe_tup (pa_cons (pv 2) pa_nil)) pa_nil))) (pa_cons (pe_op op_catS (pv 1) (pe_tup (pa_cons (pe_lst (pa_cons (pv 2) (pa_cons pe_int pa_nil))) pa_nil))) (pa_cons (pe_op op_catS (pv 1) (pe_tup (pa_cons (pe_tup (pa_cons (pv 2) (pa_cons pe_int (pa_cons pe_int pa_nil)))) pa_nil))) (pa_cons pe_non (pa_cons pe_bl (pa_cons pe_str (pa_cons (pe_op op_catS (pe_tup (pa_cons (pe_tup (pa_cons pe_bl (pa_cons pe_int pa_nil))) pa_nil)) (pv 1)) (pa_cons (pe_op op_catS (pv 1) (pe_tup (pa_cons (pe_tup (pa_cons (pv 2) (pa_cons pe_str pa_nil))) pa_nil))) (pa_cons (pe_op op_catS (pv 1) (pe_tup (pa_cons pe_non pa_nil))) (pa_cons (pe_op op_catS (pv 1) (pe_tup (pa_cons (pe_tup (pa_cons (pv 2) (pa_cons pe_int pa_nil))) pa_nil))) (pa_cons (pe_op op_catS (pv 1) (pe_tup (pa_cons (pe_tup (pa_cons (pv 2) (pa_cons (pv 2) pa_nil))) (pa_cons (pe_tup (pa_cons (pe_op op_add (pv 2) pe_int) (pa_cons (pv 2) pa_nil))) pa_nil)))) (pa_cons (pe_tup (pa_cons (pv 1) pa_nil)) pa_nil))))))))))))))))))))
      (pss_one (ps_ret (pe_ix ix_list (pv 3) (pv 0) (fun _ _ => rfl)))))), ?_⟩
  refine goE (K := K) (l := l) ee_int fun y H1 e1 h1 => ?_
  obtain rfl : y = .int 400 := by cases h1; rfl
  have hd1 : Dp K (del H1 l) x (.tuple (L.map prD)) := dp_same (same_del l e1) hd
  have hl : H1 l = some (.lst zs) := e1 _ _ hl0
  apply goE (K := K) (l := l)
  · repeat (first | exact ee_int | exact ee_str | exact ee_bl | exact ee_non | exact ee_neg | exact eb_nil | exact ee_var rfl (.int _) | exact ee_var rfl (by assumption) | apply eb_cons | apply ee_tup hl | apply ee_lst hl | apply ee_add | apply ee_cat hl | apply ee_cut hl | apply ee_rev hl | apply ee_list hl | (simp only [List.length_map, List.length_cons, List.length_nil, List.length_append, List.length_reverse, List.length_take, List.length_drop]; omega))
  intro m H2 e2 h2
  obtain ⟨a, xs, rfl, ha', hx⟩ := lst_of h2
  have ha := (del_le H2 l).seq ha'
  have hl18 : xs.length = 18 := dp_len hx
  obtain ⟨v, ev⟩ : ∃ v, xs[n]? = some v := ⟨_, List.getElem?_eq_getElem (by omega)⟩
  obtain ⟨d, md, ed, hdv⟩ := dp_get hx ev
  refine ⟨_, rfl, _, rfl, a, _, _, _, rfl, rfl, ha, atI_nat ev, ?_⟩
  refine k v d H2 (e1.trans e2) hdv ?_
  have ld : (L.map prD).length ≤ 40 := by rw [List.length_map]; exact hL
  generalize L.map prD = ds at *
  simp only [List.mem_cons, List.not_mem_nil, or_false] at md
  rcases md with h | h | h | h | h | h | h | h | h | h | h | h | h | h | h | h | h | h
  all_goals subst h
  all_goals first
    | exact Nat.zero_le _
    | (show List.length _ ≤ 1000
       simp only [List.length_cons, List.length_nil, List.length_append, List.length_reverse, List.length_take, List.length_drop]
       omega)
def try__law_pairs_refused_1 {K : PySem.W.Frag} {mg : Str → Option Value} (T : Txt K mg) : TS := fun D σ H => (fun W => (tIfS (tTest (tOp rEq (tVar 1) (tC (.int 0)))) (tDrop (tCallS (spUnlB T.C_NotUsable K) (WE W) (tCons (tVar 0) tNil))) (tIfS (tTest (tOp rEq (tVar 1) (tC (.int 1)))) (tDrop (tCallKS (spUnlB T.C_NotUsable K) (fun vs zs => match vs, zs with | [], [a] => [a] | _, _ => []) (WE W) (tCons (tVar 0) tNil))) (tDrop (tCallS (spUnlB T.C_NotUsable K) (WE W) (tCons (tVar 0) tNil)))))) (wAs K (.ref T.C_NeedError) 2 (fun a cls d => (tRet (tCallE (spRefusal T.C_NotUsable) a cls d (tCons (tVar 2) (tCons (tC (.str "pairs")) tNil))))) (fun _ _ _ _ => False) D) D σ H
theorem ok_pairs_refused (T : Txt K mg) : FnOk P w K mg base CX0 7 T.f__law_pairs_refused T.d__law_pairs_refused ["_law_x", "_law_way"] (spPairsR K) := by
  have nd := sc__law_pairs_refused.nd
  refine T.F__law_pairs_refused.ok sc__law_pairs_refused (fun vs H Q E h => ?_) (fun cdv A outer s H vs Q E hr h => ?_)
  · obtain ⟨x, d, n, rfl, _⟩ := h
    rfl
  obtain ⟨x, d, n, rfl, hd, ht, hT, k⟩ := h
  have G_transfer_rows : FnOk P w K mg base (L2N.CX P w) 6 _ _ _ (spUnlB T.C_NotUsable K) := ok_rowsB T
  have hr_transfer_rows := hr
  have G_unlike_pairs : FnOk P w K mg base (L2N.CX P w) 6 _ _ _ (spUnlB T.C_NotUsable K) := ok_unlike_pairsB T
  have hr_unlike_pairs := hr
  have G_closed_rings : FnOk P w K mg base (L2N.CX P w) 6 _ _ _ (spUnlB T.C_NotUsable K) := ok_ringsB T
  have hr_closed_rings := hr
  have G__law_refusal : FnP P w K mg base 5 _ _ _ (spRefusal T.C_NotUsable) := ok_refusal T
  have hr__law_refusal := hr.mono (show 5 ≤ 6 by omega)
  refine ⟨_, (pss_cons (PS.as (try__law_pairs_refused_1 T) (L2N.ps_try_as (i := 2) (tb := fun W => (tIfS (tTest (tOp rEq (tVar 1) (tC (.int 0)))) (tDrop (tCallS (spUnlB T.C_NotUsable K) (WE W) (tCons (tVar 0) tNil))) (tIfS (tTest (tOp rEq (tVar 1) (tC (.int 1)))) (tDrop (tCallKS (spUnlB T.C_NotUsable K) (fun vs zs => match vs, zs with | [], [a] => [a] | _, _ => []) (WE W) (tCons (tVar 0) tNil))) (tDrop (tCallS (spUnlB T.C_NotUsable K) (WE W) (tCons (tVar 0) tNil))))))
      (ts := fun a cls d => (tRet (tCallE (spRefusal T.C_NotUsable) a cls d (tCons (tVar 2) (tCons (tC (.str "pairs")) tNil))))) (Wout := fun _ _ _ _ => False) rfl rfl nd rfl rfl ⟨rfl, by decide, Or.inl T.mC_NeedError⟩ takes0N (fun W pn xe tk _ => by exact (pss_one (ps_if (pt_cmpR op_eq (pv 1) pe_int (nomark _)) (pss_one (ps_expr (by exact (pe_callS G_transfer_rows hr_transfer_rows rfl T.m_transfer_rows T.k_transfer_rows T.b_transfer_rows (fun σ => L2N.passAt tk σ) (by exact (pa_cons (pv 0) pa_nil)))))) (pss_one (ps_if (pt_cmpR op_eq (pv 1) pe_int (nomark _)) (pss_one (ps_expr (by exact (by exact (pe_callKS G_unlike_pairs hr_unlike_pairs rfl T.m_unlike_pairs T.k_unlike_pairs T.w_unlike_pairs_pairs (fun σ => L2N.passAt tk σ) (by exact (pk_cons (pv 0) pk_nil))))))) (pss_one (ps_expr (by exact (pe_callS G_closed_rings hr_closed_rings rfl T.m_closed_rings T.k_closed_rings T.b_closed_rings (fun σ => L2N.passAt tk σ) (by exact (pa_cons (pv 0) pa_nil)))))))))))
      (fun a oe cls d pn hz hf => by exact (pss_one (ps_ret (by exact (by exact (pe_callE G__law_refusal (roomH_mark hr__law_refusal _) hz hf rfl T.m__law_refusal T.k__law_refusal T.b__law_refusal (by exact (pa_cons (pv 2) (pa_cons pe_str pa_nil)))))))))))
      (pss_one (ps_ret pe_bl))), ?_⟩
  have suite : ∀ (dd : Addr) (H2 : Hp), Same H H2 → H2 dd = some (.xd [("at", .int (-1)), ("word", .str "pairs")]) → ∀ (a : Addr), (∀ oe : Obj, Zc (.ref T.C_NotUsable) (some dd) oe → (∃ ws, oe.data = .fields ws) → spRefusal T.C_NotUsable (a, oe) [.ref a, .str "pairs"] H2 Q E0) := fun dd H2 e2 hxd a oe hz hf =>
    ⟨dd, _, rfl, hz, hf, hxd, fun H' e => k H' (e2.trans e)⟩
  refine ⟨_, rfl, rfl, _, rfl, ?_⟩
  refine ite2 (fun c => ?_) (fun c => ?_)
  · refine ⟨_, rfl, x, d, rfl, hd, ht, hT, fun dd H2 e2 hdd hxd => ⟨true, T.ex_NotUsable_NeedError, fun _ a ha => ?_, fun q => Bool.noConfusion q⟩⟩
    exact ⟨_, rfl, suite dd H2 e2 hxd a⟩
  · refine ⟨_, rfl, rfl, _, rfl, ?_⟩
    refine ite2 (fun c => ?_) (fun c => ?_)
    · refine ⟨_, rfl, x, d, rfl, hd, ht, hT, fun dd H2 e2 hdd hxd => ⟨true, T.ex_NotUsable_NeedError, fun _ a ha => ?_, fun q => Bool.noConfusion q⟩⟩
      exact ⟨_, rfl, suite dd H2 e2 hxd a⟩
    · refine ⟨_, rfl, x, d, rfl, hd, ht, hT, fun dd H2 e2 hdd hxd => ⟨true, T.ex_NotUsable_NeedError, fun _ a ha => ?_, fun q => Bool.noConfusion q⟩⟩
      exact ⟨_, rfl, suite dd H2 e2 hxd a⟩
def try__law_rows_refused_1 {K : PySem.W.Frag} {mg : Str → Option Value} (T : Txt K mg) : TS := fun D σ H => (fun W => (tDrop (tCallS (spMovedB T.C_NotUsable K) (WE W) (tCons (tOp (rIxL K) (tVar 3) (tVar 0)) (tCons (tVar 1) tNil))))) (wAs K (.ref T.C_NeedError) 4 (fun a cls d => (tRet (tCallE (spRefusal T.C_NotUsable) a cls d (tCons (tVar 4) (tCons (tC (.str "rows")) tNil))))) (fun _ _ _ _ => False) D) D σ H
theorem bad_rows (w : Int) (h : 0 ≤ w) : ∀ d ∈ [PyData.list [.tuple [.str "move", .int 0, .int 0]], .tuple [.tuple [.str "move", .int 0, .int w]], .tuple [.tuple [.str "swap", .int w, .int 0]], .tuple [.tuple [.str "move", .int 0]], .tuple [.tuple [.str "swap", .int 0, .int 0, .int 0]],
    .tuple [.tuple [.str "keep", .int 0, .int 0]], .tuple [.tuple [.str "move", .bool false, .int 0]], .tuple [.tuple [.str "swap", .int 0, .int (-1)]], .tuple [.list [.str "move", .int 0, .int 0]], .tuple [.str "move", .int 0, .int 0], .none,
    .tuple [.tuple [.str "move", .int 0, .int 0], .tuple []], .tuple [.tuple [.str "move", .int 0, .none]], .tuple [.tuple [.bool true, .int 0, .int 0]]], tlen d ≤ 1000 ∧ calmDs d = true ∧ isMvs w d = false := by
  intro d md
  simp only [List.mem_cons, List.not_mem_nil, or_false] at md
  have k1 : ("keep" == ("move" : Str) || "keep" == ("swap" : Str)) = false := by decide +kernel
  rcases md with h | h | h | h | h | h | h | h | h | h | h | h | h | h
  all_goals subst h
  all_goals refine ⟨?_, ?_, ?_⟩
  all_goals simp [tlen, calmDs, calmD, flatD, isMvs, isMv, verbD, cellD, k1]
theorem ok_rows_refused (T : Txt K mg) : FnOk P w K mg base CX0 6 T.f__law_rows_refused T.d__law_rows_refused ["_law_number", "_law_held"] (spRowsR K) := by
  have nd := sc__law_rows_refused.nd
  refine T.F__law_rows_refused.ok sc__law_rows_refused (fun vs H Q E h => ?_) (fun cdv A outer s H vs Q E hr h => ?_)
  · obtain ⟨n, b, ws, rfl, _⟩ := h
    rfl
  obtain ⟨n, b, ws, rfl, hn, hb, hws, k⟩ := h
  have G_moved_by : FnOk P w K mg base (L2N.CX P w) 4 _ _ _ (spMovedB T.C_NotUsable K) := ok_movedB T
  have hr_moved_by := hr.mono (show 4 ≤ 5 by omega)
  have G__law_refusal : FnP P w K mg base 5 _ _ _ (spRefusal T.C_NotUsable) := ok_refusal T
  have hr__law_refusal := hr
  refine ⟨_, (pss_cons (ps_set (i := 2) nd rfl (Or.inl rfl) (pe_callB call_len_seq (by rfl) T.z_len PySem.boot_len (pa_cons (pv 1) pa_nil)))
      (pss_cons (ps_set (i := 3) nd rfl (Or.inl rfl) (pe_lst (pa_cons (pe_lst (pa_cons (pe_tup (pa_cons pe_str (pa_cons pe_int (pa_cons pe_int pa_nil)))) pa_nil)) (pa_cons (pe_tup (pa_cons (pe_tup (pa_cons pe_str (pa_cons pe_int (pa_cons (pv 2) pa_nil)))) pa_nil)) (pa_cons (pe_tup (pa_cons (pe_tup (pa_cons pe_str (pa_cons (pv 2) (pa_cons pe_int pa_nil)))) pa_nil)) (pa_cons (pe_tup (pa_cons (pe_tup (pa_cons pe_str (pa_cons pe_int pa_nil))) pa_nil)) (pa_cons (pe_tup (pa_cons (pe_tup (pa_cons pe_str (pa_cons pe_int (pa_cons pe_int (pa_cons pe_int pa_nil))))) pa_nil)) (pa_cons (pe_tup (pa_cons (pe_tup (pa_cons pe_str (pa_cons pe_int (pa_cons pe_int pa_nil)))) pa_nil)) (pa_cons (pe_tup (pa_cons (pe_tup (pa_cons pe_str (pa_cons pe_bl (pa_cons pe_int pa_nil)))) pa_nil)) (pa_cons (pe_tup (pa_cons (pe_tup (pa_cons pe_str (pa_cons pe_int (pa_cons (pe_un un_neg pe_int) pa_nil)))) pa_nil)) (pa_cons (pe_tup (pa_cons (pe_lst (pa_cons pe_str (pa_cons pe_int (pa_cons pe_int pa_nil)))) pa_nil)) (pa_cons (pe_tup (pa_cons pe_str (pa_cons pe_int (pa_cons pe_int pa_nil)))) (pa_cons pe_non (pa_cons (pe_tup (pa_cons (pe_tup (pa_cons pe_str (pa_cons pe_int (pa_cons pe_int pa_nil)))) (pa_cons (pe_tup pa_nil) pa_nil))) (pa_cons (pe_tup (pa_cons (pe_tup (pa_cons pe_str (pa_cons pe_int (pa_cons pe_non pa_nil)))) pa_nil)) (pa_cons (pe_tup (pa_cons (pe_tup (pa_cons pe_bl (pa_cons pe_int (pa_cons pe_int pa_nil)))) pa_nil)) pa_nil))))))))))))))))
      (pss_cons (PS.as (try__law_rows_refused_1 T) (L2N.ps_try_as (i := 4) (tb := fun W => (tDrop (tCallS (spMovedB T.C_NotUsable K) (WE W) (tCons (tOp (rIxL K) (tVar 3) (tVar 0)) (tCons (tVar 1) tNil)))))
      (ts := fun a cls d => (tRet (tCallE (spRefusal T.C_NotUsable) a cls d (tCons (tVar 4) (tCons (tC (.str "rows")) tNil))))) (Wout := fun _ _ _ _ => False) rfl rfl nd rfl rfl ⟨rfl, by decide, Or.inl T.mC_NeedError⟩ takes0N (fun W pn xe tk _ => by exact (pss_one (ps_expr (by exact (pe_callS G_moved_by hr_moved_by rfl T.m_moved_by T.k_moved_by T.b_moved_by (fun σ => L2N.passAt tk σ) (by exact (pa_cons (pe_ix ix_list (pv 3) (pv 0) (fun _ _ => rfl)) (pa_cons (pv 1) pa_nil))))))))
      (fun a oe cls d pn hz hf => by exact (pss_one (ps_ret (by exact (by exact (pe_callE G__law_refusal (roomH_mark hr__law_refusal _) hz hf rfl T.m__law_refusal T.k__law_refusal T.b__law_refusal (by exact (pa_cons (pv 4) (pa_cons pe_str pa_nil)))))))))))
      (pss_one (ps_ret pe_bl))))), ?_⟩
  refine ⟨_, rfl, b, _, rfl, .inr hb, ?_⟩
  rw [iV_len]
  refine gname_go ?_
  apply goS (K := K)
  · repeat (first | exact ev_int | exact ev_str | exact ev_bl | exact ev_non | exact ev_neg | exact ea_nil | exact ev_var rfl (.int _) | exact ev_var rfl (by assumption) | apply ea_cons | apply ev_tup | apply ev_lst | apply ev_add | apply ev_cat | apply ev_cut | apply ev_rev | apply ev_list | (simp only [List.length_map, List.length_cons, List.length_nil, List.length_append, List.length_reverse, List.length_take, List.length_drop]; omega))
  intro m H2 e2 h2
  obtain ⟨a, xs, rfl, ha, hx⟩ := lst_of h2
  have hl : xs.length = 14 := dp_len hx
  obtain ⟨v, ev⟩ : ∃ v, xs[n]? = some v := ⟨_, List.getElem?_eq_getElem (by omega)⟩
  obtain ⟨d, md, ed, hdv⟩ := dp_get hx ev
  obtain ⟨b1, b2, b3⟩ := bad_rows (ws.length : Int) (by omega) d md
  refine ⟨_, rfl, _, rfl, a, _, _, _, rfl, rfl, ha, atI_nat ev, _, rfl, v, d, b, ws, rfl, hdv, b1, b2, seqT_same e2 hb, b3, fun dd H3 e3 hdd hxd => ⟨true, T.ex_NotUsable_NeedError, fun _ a ha => ?_, fun q => Bool.noConfusion q⟩⟩
  exact ⟨_, rfl, fun oe hz hf => ⟨dd, _, rfl, hz, hf, hxd, fun H' e => k H' ((e2.trans e3).trans e)⟩⟩
end
end Lk

set_option Elab.async false
set_option linter.all false
set_option maxRecDepth 100000
set_option maxHeartbeats 4000000
namespace Lk
open PySem PySem.Spec PyProof.Rows L2
/-! ### facts on the data of transfers and rows -/
theorem prsOf_prsD (L : List Pr) : prsOf (prsD L) = L := by
  show (L.map prD).map (fun d => (fstI d, sndI d)) = L
  rw [List.map_map]
  exact (List.map_congr_left fun p _ => rfl).trans (List.map_id L)
theorem isPr_prD {p : Pr} (h : 0 ≤ p.1 ∧ 0 ≤ p.2) : isPr (prD p) = true := by
  show (decide (0 ≤ p.1) && decide (0 ≤ p.2)) = true
  rw [decide_eq_true h.1, decide_eq_true h.2]; rfl
theorem isT_prsD {L : List Pr} (h : ∀ p ∈ L, 0 ≤ p.1 ∧ 0 ≤ p.2) (a : (tos L).Pairwise (· < ·)) : isT (prsD L) = true := by
  show isT (.tuple (L.map prD)) = true
  rw [isT_eq, Bool.and_eq_true_iff]
  refine ⟨List.all_eq_true.mpr fun d m => ?_, ascD_iff.mpr fun j hj => ?_⟩
  · obtain ⟨p, mp, rfl⟩ := List.mem_map.mp m
    exact isPr_prD (h p mp)
  · rw [List.length_map] at hj
    have g : ∀ i (hi : i < L.length), fs (L.map prD) i = (L[i]).1 := fun i hi => by
      unfold fs
      rw [List.getD_eq_getElem?_getD, List.getElem?_map, List.getElem?_eq_getElem hi]
      rfl
    rw [g j (by omega), g (j + 1) hj]
    have := List.pairwise_iff_getElem.mp a j (j + 1) (by unfold tos; rw [List.length_map]; omega) (by unfold tos; rw [List.length_map]; omega) (by omega)
    unfold tos at this
    rw [List.getElem_map, List.getElem_map] at this
    exact this
theorem vb_move (b : Bool) : (vb b == "move") = b := by cases b <;> decide +kernel
theorem vb_verb (b : Bool) : (vb b == "move" || vb b == "swap") = true := by cases b <;> decide +kernel
theorem rwsOf_rwsD (R : List Rw) : rwsOf (rwsD R) = R := by
  show (R.map rwD).map rwOf = R
  rw [List.map_map]
  refine (List.map_congr_left fun r _ => ?_).trans (List.map_id R)
  show (vb r.1 == "move", r.2.1, r.2.2) = r
  rw [vb_move]
theorem calm_rwsD (R : List Rw) : calmDs (rwsD R) = true := by
  show (R.map rwD).all calmD = true
  rw [List.all_map]
  exact List.all_eq_true.mpr fun r _ => rfl
theorem isMvs_rwsD {n : Int} {R : List Rw} (h : ∀ r ∈ R, inRw n r) : isMvs n (rwsD R) = true := by
  show (R.map rwD).all (isMv n) = true
  rw [List.all_map]
  refine List.all_eq_true.mpr fun r m => ?_
  obtain ⟨h1, h2, h3, h4⟩ := h r m
  show ((vb r.1 == "move" || vb r.1 == "swap") && ((decide (0 ≤ r.2.1) && decide (r.2.1 < n)) && (decide (0 ≤ r.2.2) && decide (r.2.2 < n)))) = true
  rw [vb_verb, decide_eq_true h1, decide_eq_true h2, decide_eq_true h3, decide_eq_true h4]; rfl
theorem tlen_prsD (L : List Pr) : tlen (prsD L) = L.length := List.length_map _
theorem tlen_rwsD (R : List Rw) : tlen (rwsD R) = R.length := List.length_map _
theorem plain_rwsD {R : List Rw} (h : R.length ≤ 100000) (n : Nat) : plainD (n + 3) (rwsD R) = true := by
  show (decide ((R.map rwD).length ≤ 100000) && (R.map rwD).all (plainD (n + 2))) = true
  rw [List.length_map, decide_eq_true h, List.all_map]
  exact List.all_eq_true.mpr fun r _ => rfl
theorem plain_ints {ws : List Int} (h : ws.length ≤ 100000) (n : Nat) : plainD (n + 2) (.tuple (ws.map .int)) = true := by
  show (decide ((ws.map PyData.int).length ≤ 100000) && (ws.map PyData.int).all (plainD (n + 1))) = true
  rw [List.length_map, decide_eq_true h, List.all_map]
  exact List.all_eq_true.mpr fun r _ => rfl
theorem dp_iV {K : PySem.W.Frag} {H : Hp} {p : Addr} {ws : List Int} (h : SqT K H p (iV ws)) : Dp K H (.ref p) (.tuple (ws.map .int)) := .tup h (dp_ints ws)
theorem rings_of {L : List Pr} (g : GoodL L) (n : L.length ≤ 1000) : ringsOf L = (L.length : Int) - ((rowsN 1000 L).length : Int) := by
  have := rows_rings 1000 L g n
  unfold ringsOf
  omega
def lenI (L : List Pr) : Int := L.length
structure HandC (L : List Pr) (R : List Rw) (u c : Int) (ws : List Int) : Prop where
  nn : ∀ p ∈ L, 0 ≤ p.1 ∧ 0 ≤ p.2
  asc : (tos L).Pairwise (· < ·)
  few : L.length ≤ 1000
  rows : rowsN 1000 (unl L) = R
  mv : ∀ r ∈ R, inRw 4 r
  un : ((unl L).length : Int) = u
  ri : u - (R.length : Int) = c
  run : runL [7, 8, 9, 6] R = ws
def dueD (L : List Pr) (R : List Rw) (u c : Int) (ws : List Int) : PyData := .tuple [prsD L, rwsD R, .int u, .int c, .tuple (ws.map .int)]
def spHand (K : PySem.W.Frag) : Sp := fun vs H Q _ => ∃ n : Nat, vs = [.int n] ∧ n < 6 ∧ ∀ H', Same H H' → Q (.bl true) H'
theorem hand_due (d : PyData) (m : d ∈ [dueD [(0, 1), (1, 0), (2, 0), (3, 3)] [(true, 2, 0), (false, 0, 1)] 3 1 [8, 7, 7, 6], dueD [(0, 1), (1, 2), (2, 0)] [(false, 0, 1), (false, 1, 2)] 3 1 [8, 9, 7, 6], dueD [(1, 0), (2, 1), (3, 2)] [(true, 3, 2), (true, 2, 1), (true, 1, 0)] 3 0 [7, 7, 8, 9],
    dueD [] [] 0 0 [7, 8, 9, 6], dueD [(0, 0), (1, 0), (2, 0)] [(true, 1, 0), (true, 2, 0)] 2 0 [7, 7, 7, 6], dueD [(0, 1), (1, 0), (2, 3), (3, 2)] [(false, 0, 1), (false, 2, 3)] 4 2 [8, 7, 6, 9]]) : ∃ L R u c ws, d = dueD L R u c ws ∧ HandC L R u c ws := by
  simp only [List.mem_cons, List.not_mem_nil, or_false] at m
  rcases m with h | h | h | h | h | h
  all_goals subst h
  all_goals refine ⟨_, _, _, _, _, rfl, ?_⟩
  all_goals constructor
  all_goals first
    | decide +kernel
    | rfl
    | (unfold inRw; decide +kernel)
section
variable {P : Program} {w : World} {K : PySem.W.Frag} {mg : Str → Option Value} {base : Heap}
theorem dpAll_at {H : Hp} {xs : List V} {ds : List PyData} {i : Nat} {d : PyData} (h : DpAll K H xs ds) (e : ds[i]? = some d) : ∃ v, xs[i]? = some v ∧ Dp K H v d := by
  obtain ⟨hi, rfl⟩ := List.getElem?_eq_some_iff.mp e
  exact dp_nth h hi
theorem ok_by_hand (T : Txt K mg) : FnOk P w K mg base CX0 7 T.f__law_by_hand T.d__law_by_hand ["_law_number"] (spHand K) := by
  have nd := sc__law_by_hand.nd
  refine T.F__law_by_hand.ok sc__law_by_hand (fun vs H Q E h => ?_) (fun cdv A outer s H vs Q E hr h => ?_)
  · obtain ⟨n, rfl, _⟩ := h
    rfl
  obtain ⟨n, rfl, hn, k⟩ := h
  have G_transfer_rows : FnOk P w K mg base CX0 6 _ _ _ (spRowsG K) := ok_rowsG T
  have hr_transfer_rows := hr
  have G_unlike_pairs : FnOk P w K mg base CX0 6 _ _ _ (spCountG K lenI) := ok_unlike_pairsG T
  have hr_unlike_pairs := hr
  have G_closed_rings : FnOk P w K mg base CX0 6 _ _ _ (spCountG K ringsOf) := ok_ringsG T
  have hr_closed_rings := hr
  have G_moved_by : FnOk P w K mg base CX0 4 _ _ _ (spMovedG K) := ok_movedG T
  have hr_moved_by := hr.mono (show 4 ≤ 6 by omega)
  have G__law_same : FnOk P w K mg base CX0 5 _ _ _ (spSame 4 K) := ok_same T 4
  have hr__law_same := hr.mono (show 5 ≤ 6 by omega)
  refine ⟨_, (pss_cons (ps_set (i := 1) nd rfl (Or.inl rfl) (pe_lst (pa_cons (pe_tup (pa_cons (pe_tup (pa_cons (pe_tup (pa_cons pe_int (pa_cons pe_int pa_nil))) (pa_cons (pe_tup (pa_cons pe_int (pa_cons pe_int pa_nil))) (pa_cons (pe_tup (pa_cons pe_int (pa_cons pe_int pa_nil))) (pa_cons (pe_tup (pa_cons pe_int (pa_cons pe_int pa_nil))) pa_nil))))) (pa_cons (pe_tup (pa_cons (pe_tup (pa_cons pe_str (pa_cons pe_int (pa_cons pe_int pa_nil)))) (pa_cons (pe_tup (pa_cons pe_str (pa_cons pe_int (pa_cons pe_int pa_nil)))) pa_nil))) (pa_cons pe_int (pa_cons pe_int (pa_cons (pe_tup (pa_cons pe_int (pa_cons pe_int (pa_cons pe_int (pa_cons pe_int pa_nil))))) pa_nil)))))) (pa_cons (pe_tup (pa_cons (pe_tup (pa_cons (pe_tup (pa_cons pe_int (pa_cons pe_int pa_nil))) (pa_cons (pe_tup (pa_cons pe_int (pa_cons pe_int pa_nil))) (pa_cons (pe_tup (pa_cons pe_int (pa_cons pe_int pa_nil))) pa_nil)))) (pa_cons (pe_tup (pa_cons (pe_tup (pa_cons pe_str (pa_cons pe_int (pa_cons pe_int pa_nil)))) (pa_cons (pe_tup (pa_cons pe_str (pa_cons pe_int (pa_cons pe_int pa_nil)))) pa_nil))) (pa_cons pe_int (pa_cons pe_int (pa_cons (pe_tup (pa_cons pe_int (pa_cons pe_int (pa_cons pe_int (pa_cons pe_int pa_nil))))) pa_nil)))))) (pa_cons (pe_tup (pa_cons (pe_tup (pa_cons (pe_tup (pa_cons pe_int (pa_cons pe_int pa_nil))) (pa_cons (pe_tup (pa_cons pe_int (pa_cons pe_int pa_nil))) (pa_cons (pe_tup (pa_cons pe_int (pa_cons pe_int pa_nil))) pa_nil)))) (pa_cons (pe_tup (pa_cons (pe_tup (pa_cons pe_str (pa_cons pe_int (pa_cons pe_int pa_nil)))) (pa_cons (pe_tup (pa_cons pe_str (pa_cons pe_int (pa_cons pe_int pa_nil)))) (pa_cons (pe_tup (pa_cons pe_str (pa_cons pe_int (pa_cons pe_int pa_nil)))) pa_nil)))) (pa_cons pe_int (pa_cons pe_int (pa_cons (pe_tup (pa_cons pe_int (pa_cons pe_int (pa_cons pe_int (pa_cons pe_int pa_nil))))) pa_nil)))))) (pa_cons (pe_tup (pa_cons (pe_tup pa_nil) (pa_cons (pe_tup pa_nil) (pa_cons pe_int (pa_cons pe_int (pa_cons (pe_tup (pa_cons pe_int (pa_cons pe_int (pa_cons pe_int (pa_cons pe_int pa_nil))))) pa_nil)))))) (pa_cons (pe_tup (pa_cons (pe_tup (pa_cons (pe_tup (pa_cons pe_int (pa_cons pe_int pa_nil))) (pa_cons (pe_tup (pa_cons pe_int (pa_cons pe_int pa_nil))) (pa_cons (pe_tup (pa_cons pe_int (pa_cons pe_int pa_nil))) pa_nil)))) (pa_cons (pe_tup (pa_cons (pe_tup (pa_cons pe_str (pa_cons pe_int (pa_cons pe_int pa_nil)))) (pa_cons (pe_tup (pa_cons pe_str (pa_cons pe_int (pa_cons pe_int pa_nil)))) pa_nil))) (pa_cons pe_int (pa_cons pe_int (pa_cons (pe_tup (pa_cons pe_int (pa_cons pe_int (pa_cons pe_int (pa_cons pe_int pa_nil))))) pa_nil)))))) (pa_cons (pe_tup (pa_cons (pe_tup (pa_cons (pe_tup (pa_cons pe_int (pa_cons pe_int pa_nil))) (pa_cons (pe_tup (pa_cons pe_int (pa_cons pe_int pa_nil))) (pa_cons (pe_tup (pa_cons pe_int (pa_cons pe_int pa_nil))) (pa_cons (pe_tup (pa_cons pe_int (pa_cons pe_int pa_nil))) pa_nil))))) (pa_cons (pe_tup (pa_cons (pe_tup (pa_cons pe_str (pa_cons pe_int (pa_cons pe_int pa_nil)))) (pa_cons (pe_tup (pa_cons pe_str (pa_cons pe_int (pa_cons pe_int pa_nil)))) pa_nil))) (pa_cons pe_int (pa_cons pe_int (pa_cons (pe_tup (pa_cons pe_int (pa_cons pe_int (pa_cons pe_int (pa_cons pe_int pa_nil))))) pa_nil)))))) pa_nil))))))))
      (pss_cons (ps_set (i := 2) nd rfl (Or.inl rfl) (pe_ix ix_list (pv 1) (pv 0) (fun _ _ => rfl)))
      (pss_cons (ps_set (i := 3) nd rfl (Or.inl rfl) (pe_call G_transfer_rows hr_transfer_rows rfl T.m_transfer_rows T.k_transfer_rows T.b_transfer_rows .nil pass0 (pa_cons (pe_ix ix_tup (pv 2) pe_int (fun _ _ => rfl)) pa_nil)))
      (pss_cons (ps_set (i := 4) nd rfl (Or.inl rfl) (pe_tup (pa_cons (pv 3) (pa_cons (pe_call G_unlike_pairs hr_unlike_pairs rfl T.m_unlike_pairs T.k_unlike_pairs T.b_unlike_pairs .nil pass0 (pa_cons (pe_ix ix_tup (pv 2) pe_int (fun _ _ => rfl)) pa_nil)) (pa_cons (pe_call G_closed_rings hr_closed_rings rfl T.m_closed_rings T.k_closed_rings T.b_closed_rings .nil pass0 (pa_cons (pe_ix ix_tup (pv 2) pe_int (fun _ _ => rfl)) pa_nil)) (pa_cons (pe_call G_moved_by hr_moved_by rfl T.m_moved_by T.k_moved_by T.b_moved_by .nil pass0 (pa_cons (pv 3) (pa_cons (pe_tup (pa_cons pe_int (pa_cons pe_int (pa_cons pe_int (pa_cons pe_int pa_nil))))) pa_nil))) pa_nil))))))
      (pss_one (ps_ret (pe_and (pe_call G__law_same hr__law_same rfl T.m__law_same T.k__law_same T.b__law_same .nil pass0 (pa_cons (pv 4) (pa_cons (pe_slice sl_tupS (pv 2) (po_some pe_int) po_none) pa_nil))) (pe_one (pe_call G__law_same hr__law_same rfl T.m__law_same T.k__law_same T.b__law_same .nil pass0 (pa_cons (pe_call G_moved_by hr_moved_by rfl T.m_moved_by T.k_moved_by T.b_moved_by .nil pass0 (pa_cons (pe_tup pa_nil) (pa_cons (pe_tup pa_nil) pa_nil))) (pa_cons (pe_tup pa_nil) pa_nil))))))))))), ?_⟩
  apply goS (K := K)
  · repeat (first | exact ev_int | exact ev_str | exact ev_bl | exact ev_non | exact ev_neg | exact ea_nil | exact ev_var rfl (.int _) | exact ev_var rfl (by assumption) | apply ea_cons | apply ev_tup | apply ev_lst | apply ev_add | apply ev_cat | apply ev_cut | apply ev_rev | apply ev_list | (simp only [List.length_map, List.length_cons, List.length_nil, List.length_append, List.length_reverse, List.length_take, List.length_drop]; omega))
  intro m H1 e1 h1
  obtain ⟨a, xs, rfl, ha, hx⟩ := lst_of h1
  have hl : xs.length = 6 := dp_len hx
  obtain ⟨v, ev⟩ : ∃ v, xs[n]? = some v := ⟨_, List.getElem?_eq_getElem (by omega)⟩
  obtain ⟨d, md, ed, hdv⟩ := dp_get hx ev
  obtain ⟨L, R, u, c, ws, rfl, C⟩ := hand_due d md
  refine ⟨_, rfl, _, rfl, a, _, _, _, rfl, rfl, ha, atI_nat ev, ?_⟩
  obtain ⟨ad, ys, rfl, had, hys⟩ := tup_of hdv
  have lys : ys.length = 5 := dp_len hys
  obtain ⟨y0, ey0, hy0⟩ := dpAll_at hys (i := 0) rfl
  have hT := isT_prsD C.nn C.asc
  have ht : tlen (prsD L) ≤ 1000 := by rw [tlen_prsD]; exact C.few
  have gu := unl_goodP C.asc
  have lu : (unl L).length ≤ 1000 := Nat.le_trans (List.length_filter_le _ _) C.few
  have lR : R.length ≤ 1000 := by
    have := rows_rings 1000 (unl L) gu lu
    rw [C.rows] at this; omega
  refine ⟨_, rfl, ad, _, _, _, rfl, rfl, had, atI_nat ey0, y0, prsD L, rfl, hy0, ht, hT, fun z H2 e2 hz => ?_⟩
  rw [prsOf_prsD, C.rows] at hz
  have had2 := seqT_same e2 had
  have hy2 := dp_same e2 hy0
  refine ⟨_, rfl, _, rfl, ad, _, _, _, rfl, rfl, had2, atI_nat ey0, y0, prsD L, rfl, hy2, ht, hT, fun H3 e3 => ?_⟩
  rw [prsOf_prsD, show lenI (unl L) = u from C.un]
  refine ⟨_, rfl, ad, _, _, _, rfl, rfl, seqT_same e3 had2, atI_nat ey0, y0, prsD L, rfl, dp_same e3 hy2, ht, hT, fun H4 e4 => ?_⟩
  rw [prsOf_prsD, rings_of gu lu, C.rows, C.un, C.ri]
  refine ⟨_, rfl, (by show 4 ≤ sizeLine; decide), fun p hp => ?_⟩
  have e5 : Same H4 (upd H4 p (.tup [.int 7, .int 8, .int 9, .int 6])) := same_new hp _
  have e25 := (e3.trans e4).trans e5
  refine ⟨z, rwsD R, p, [7, 8, 9, 6], rfl, dp_same e25 hz, by rw [tlen_rwsD]; exact lR, calm_rwsD R, SqT.of upd_same, isMvs_rwsD C.mv, fun r H6 e6 hr6 => ?_⟩
  rw [rwsOf_rwsD, C.run] at hr6
  refine ⟨(by show 4 ≤ sizeLine; decide), fun g hg => ?_⟩
  have e7 := same_new hg (.tup [z, .int u, .int c, .ref r])
  have e27 := (e25.trans e6).trans e7
  refine ⟨_, rfl, _, rfl, _, rfl, ad, ys, rfl, seqT_same e27 had2, fun q H8 e8 hq => ?_⟩
  have hcut : cutV ys (some 1) none = ys.drop 1 := cut_lo (n := 1)
  rw [hcut] at hq
  have lw : ws.length ≤ 1000 := by rw [← C.run, runL_len]; decide
  refine ⟨_, _, .tuple [rwsD R, .int u, .int c, .tuple (ws.map .int)], rfl, .tup (SqT.of (e8 _ _ upd_same)) (.cons (dp_same (e27.trans e8) hz) (.cons (.int u) (.cons (.int c) (.cons (dp_same (e7.trans e8) (dp_iV hr6)) .nil)))), .tup hq (dpAll_drop 1 (dpAll_same ((e2.trans e27).trans e8) hys)), ?_, ?_⟩
  · show (decide (4 ≤ 100000) && (plainD 3 (rwsD R) && (true && (true && (plainD 3 (.tuple (ws.map .int)) && true))))) = true
    rw [plain_rwsD (by omega) 0, plain_ints (by omega) 1]; rfl
  · refine ⟨_, rfl, ?_⟩
    refine iteT ?_
    refine ⟨(by show 0 ≤ sizeLine; decide), fun p1 h1 => ⟨(by show 0 ≤ sizeLine; decide), fun p2 h2 => ?_⟩⟩
    have e9 := same_new h1 (.tup [])
    have e10 := same_new h2 (.tup [])
    refine ⟨.ref p1, .tuple [], p2, [], rfl, .tup (SqT.of (e10 _ _ upd_same)) .nil, Nat.zero_le _, rfl, SqT.of upd_same, rfl, fun r2 H11 e11 hr11 => ⟨(by show 0 ≤ sizeLine; decide), fun p3 h3 => ?_⟩⟩
    have e12 := same_new h3 (.tup [])
    refine ⟨_, _, .tuple [], rfl, .tup (seqT_same e12 hr11) .nil, .tup (SqT.of upd_same) .nil, rfl, ?_⟩
    exact k _ (((((((e1.trans e2).trans e27).trans e8).trans e9).trans e10).trans e11).trans e12)
end
end Lk

set_option Elab.async false
set_option linter.all false
set_option maxRecDepth 100000
set_option maxHeartbeats 4000000
namespace Lk
open PySem PySem.Spec PyProof.Rows L2
/-! ### max of a tuple of ints -/
def rMaxT (K : PySem.W.Frag) : List V → Hp → VK → Prop := fun vs H Q => ∃ (a : Addr) (ns : List Int), vs = [V.ref a] ∧ SqT K H a (iV ns) ∧ 0 < ns.length ∧ ∀ m, m ∈ ns → (∀ y ∈ ns, y ≤ m) → Q (.int m) H
theorem cr_maxT {X : Cx} (hc : X.calm = true) : CallR X (.builtin "max") (rMaxT X.K) := by
  intro pins s σ H vs us Q I r h
  obtain ⟨a, ns, rfl, hs, hn, q⟩ := h
  obtain ⟨its, rv, ht, _⟩ := I.tuple hs
  rw [Vals.ref1 r]
  have hi : IntsAre its ns := rv.ints
  obtain ⟨xs, e⟩ := hi.allInts.items
  have hv : numsOf (intItems xs).toList = ns := by rw [← e]; exact hi.numsOf
  rw [nums_intItems] at hv
  subst hv
  rw [e] at ht
  have hz : 0 < xs.size := by simpa using hn
  have lt : a < s.heap.objs.size := by obtain ⟨_, e, _⟩ := ht; exact Heap.lt_size e
  have ne : a ≠ s.heap.objs.size := Nat.ne_of_lt lt
  refine call_max_walk (wpAny_pyIter_tuple ht ?_)
  refine ⟨_, _, _, _, _, _, _, rfl, Walks.tuple (A := X.A.in1) (I.ok.hd hc) _ a ne (intItems xs), ⟨⟨_, Heap.get?_push_size _ rfl, rfl, rfl⟩, ht.push _⟩, ?_, by simpa [intItems] using hz, CmpOf.ints_gt (numAt xs) (fun _ _ => intItems_at), fun v h' tk hP hk => ?_⟩
  · intro b hb
    rw [Heap.size_push]
    rcases List.mem_cons.mp hb with z | z
    · rw [z]; exact Nat.lt_succ_self _
    · rcases List.mem_cons.mp z with z | z
      · rw [z]; exact Nat.lt_succ_of_lt lt
      · cases z
  · have hP' : (intItems xs)[argBest (fun i j => decide (numAt xs i > numAt xs j)) (xs.size - 1)]? = some v := by simpa [intItems] using hP
    obtain ⟨t, rfl⟩ := intItems_at hP'
    obtain ⟨h1, h2⟩ := argBest_gt (numAt xs) (xs.size - 1)
    refine ⟨.int _, H, I.kept fun b o eo => hk b o (fun m => ?_) (Heap.get?_push_of_some _ eo), ⟨t, rfl⟩, q _ ?_ fun y hy => ?_⟩
    · have e1 := List.mem_singleton.mp m
      exact absurd (e1 ▸ Heap.lt_size eo) (Nat.lt_irrefl _)
    · rw [numAt_eq]; exact PySem.getD_mem (by rw [List.length_map, Array.length_toList]; omega)
    · obtain ⟨j, hj, rfl⟩ := mem_getD hy
      rw [List.length_map, Array.length_toList] at hj
      rw [← numAt_eq]; exact h2 j (by omega)
end Lk

set_option Elab.async false
set_option linter.all false
set_option maxRecDepth 100000
set_option maxHeartbeats 4000000
namespace Lk
open PySem PySem.Spec PyProof.Rows L2
/-! ### one ring each, whichever end is told -/
section
variable {g : Int → Option Int} {T : List Int}
theorem walk_on (hT : ∀ x, g x ≠ none → x ∈ T) {M : List Int} {s : Int} : ∀ (n : Nat) (ps : List Int) (t : Int), Chain g s ps t → ps.Nodup → (∀ x ∈ ps, x ∉ M) → (∀ x ∈ ps, g x ≠ none) → T.length - ps.length ≤ n →
    ∃ ps' t', Chain g s ps' t' ∧ ps'.Nodup ∧ (∀ x ∈ ps', x ∉ M) ∧ (∀ x ∈ ps', g x ≠ none) ∧ (t' ∈ ps' ∨ g t' = none ∨ t' ∈ M) ∧ ∀ x ∈ ps, x ∈ ps'
  | n, ps, t, c, hn, hM, hg, hl => by
    by_cases h : t ∈ ps ∨ g t = none ∨ t ∈ M
    · exact ⟨ps, t, c, hn, hM, hg, h, fun _ m => m⟩
    · have h1 : t ∉ ps := fun m => h (.inl m)
      have h2 : g t ≠ none := fun m => h (.inr (.inl m))
      have h3 : t ∉ M := fun m => h (.inr (.inr m))
      obtain ⟨y, hy⟩ := Option.ne_none_iff_exists'.mp h2
      have nd : (ps ++ [t]).Nodup := List.nodup_append.mpr ⟨hn, by simp, fun x mx z mz => fun e => h1 (by rw [← List.mem_singleton.mp mz, ← e]; exact mx)⟩
      have hg' : ∀ x ∈ ps ++ [t], g x ≠ none := fun x m => (List.mem_append.mp m).elim (hg x) fun m => by rw [List.mem_singleton.mp m]; exact h2
      have le := len_le_of_nodup nd fun x m => hT x (hg' x m)
      rw [List.length_append] at le
      have one : ([t] : List Int).length = 1 := rfl
      cases n with
      | zero => omega
      | succ n =>
        obtain ⟨ps', t', a1, a2, a3, a4, a5, a6⟩ := walk_on hT n (ps ++ [t]) y (.snoc c hy) nd (fun x m => (List.mem_append.mp m).elim (hM x) fun m => by rw [List.mem_singleton.mp m]; exact h3) hg' (by rw [List.length_append]; omega)
        exact ⟨ps', t', a1, a2, a3, a4, a5, fun x m => a6 x (List.mem_append_left _ m)⟩
theorem cnt_both (hT : ∀ x, x ∈ T ↔ g x ≠ none) (hTn : T.Nodup) : ∀ (n : Nat) (M : List Int), M.Nodup → (∀ x ∈ M, x ∈ T) → (∀ x ∈ M, ∀ y, g x = some y → y ∈ M ∨ g y = none) → T.length - M.length ≤ n → cnt (Rep geI g) M = cnt (Rep leI g) M → cnt (Rep geI g) T = cnt (Rep leI g) T
  | n, M, hn, hs, hc, hl, he => by
    by_cases h : ∀ x ∈ T, x ∈ M
    · have pm := perm_of_cover T M hTn h (len_le_of_nodup hn hs)
      rw [← cnt_perm pm, ← cnt_perm pm]; exact he
    · obtain ⟨s, hs1, hs2⟩ : ∃ s, s ∈ T ∧ s ∉ M := by
        refine Classical.byContradiction fun z => h fun x m => Classical.byContradiction fun y => z ⟨x, m, y⟩
      have gs := (hT s).mp hs1
      obtain ⟨y, hy⟩ := Option.ne_none_iff_exists'.mp gs
      obtain ⟨ps, t, c, pn, pM, pg, pe, pin⟩ := walk_on (fun x m => (hT x).mpr m) (M := M) (s := s) T.length [s] y (.snoc .nil hy) (by simp) (fun x m => by rw [List.mem_singleton.mp m]; exact hs2) (fun x m => by rw [List.mem_singleton.mp m]; exact gs) (by omega)
      have w1 := walk_cnt ord_ge hc c pn pM pg
      have w2 := walk_cnt ord_le hc c pn pM pg
      have ms : s ∈ ps := pin s List.mem_cons_self
      have lp := List.length_pos_of_mem ms
      have nd : (M ++ ps).Nodup := List.nodup_append.mpr ⟨hn, pn, fun x mx z mz e => pM z mz (e ▸ mx)⟩
      have sub : ∀ x ∈ M ++ ps, x ∈ T := fun x m => (List.mem_append.mp m).elim (hs x) fun m => (hT x).mpr (pg x m)
      have le := len_le_of_nodup nd sub
      rw [List.length_append] at le
      cases n with
      | zero => omega
      | succ n =>
        refine cnt_both hT hTn n (M ++ ps) nd sub (fun x mx z hz => ?_) (by rw [List.length_append]; omega) ?_
        · rcases List.mem_append.mp mx with m | m
          · exact (hc x m z hz).imp (List.mem_append_left _) id
          · obtain ⟨us, vs, es⟩ := List.append_of_mem m
            rcases c.next us x vs es x List.mem_cons_self z hz with mz | mz
            · exact .inl (List.mem_append_right _ (by rw [es]; exact List.mem_append_right _ (List.mem_cons_of_mem _ mz)))
            · rw [mz]
              rcases pe with q | q | q
              · exact .inl (List.mem_append_right _ q)
              · exact .inr q
              · exact .inl (List.mem_append_left _ q)
        · rw [cnt_app, cnt_app, he]
          rcases pe with q | q
          · rw [w1.1 q, w2.1 q]
          · rw [w1.2 q, w2.2 q]
end
theorem rings_same {L : List Pr} (h : GoodL L) : ringsOf L = (rings1 L : Int) := by
  unfold ringsOf rings1
  have hT : ∀ x, x ∈ tos L ↔ nxt L x ≠ none := fun x => by
    constructor
    · intro m z
      obtain ⟨y, hy⟩ := nxt_some h.nodup m
      rw [z] at hy; cases hy
    · intro m
      by_cases c : x ∈ tos L
      · exact c
      · exact absurd (nxt_none c) m
  rw [cnt_both hT h.nodup (tos L).length [] List.nodup_nil (fun _ m => nomatch m) (fun _ m => nomatch m) (by simp) rfl]
/-! ### runs over lists and over functions -/
theorem app_comp {α β : Type} (f : α → β) (g : Int → α) (r : Rw) : app (fun x => f (g x)) r = fun x => f (app g r x) := by
  obtain ⟨b, i, j⟩ := r
  funext x
  cases b with
  | true =>
    show (if x = i then f (g j) else f (g x)) = f (if x = i then g j else g x)
    split <;> rfl
  | false =>
    show (if x = i then f (g j) else if x = j then f (g i) else f (g x)) = f (if x = i then g j else if x = j then g i else g x)
    split
    · rfl
    · split <;> rfl
theorem run_comp {α β : Type} (f : α → β) : ∀ (rs : List Rw) (g : Int → α), runR (fun x => f (g x)) rs = fun x => f (runR g rs x)
  | [], g => rfl
  | r :: rs, g => by
    show runR (app (fun x => f (g x)) r) rs = _
    rw [app_comp]
    exact run_comp f rs (app g r)
theorem run_in {n : Int} : ∀ (rs : List Rw) (g : Int → Int), (∀ r ∈ rs, inRw n r) → (∀ x, 0 ≤ x → x < n → 0 ≤ g x ∧ g x < n) → ∀ x, 0 ≤ x → x < n → 0 ≤ runR g rs x ∧ runR g rs x < n
  | [], g, _, h => h
  | r :: rs, g, hr, h => by
    refine run_in rs (app g r) (fun q m => hr q (List.mem_cons_of_mem _ m)) fun x h0 h1 => ?_
    obtain ⟨a1, a2, a3, a4⟩ := hr r List.mem_cons_self
    obtain ⟨b, i, j⟩ := r
    cases b with
    | true =>
      show 0 ≤ (if x = i then g j else g x) ∧ (if x = i then g j else g x) < n
      split
      · exact h j a3 a4
      · exact h x h0 h1
    | false =>
      show 0 ≤ (if x = i then g j else if x = j then g i else g x) ∧ (if x = i then g j else if x = j then g i else g x) < n
      split
      · exact h j a3 a4
      · split
        · exact h i a1 a2
        · exact h x h0 h1
theorem getD_set (ws : List Int) (i j : Nat) (v : Int) (hi : i < ws.length) : (ws.set i v).getD j 0 = if j = i then v else ws.getD j 0 := by
  rw [List.getD_eq_getElem?_getD, List.getElem?_set, List.getD_eq_getElem?_getD]
  by_cases c : i = j
  · rw [if_pos c, if_pos (c ▸ hi), if_pos c.symm]; rfl
  · rw [if_neg c, if_neg fun e => c e.symm]
theorem app_agree {n : Int} {ws : List Int} {f : Int → Int} (hn : n = ws.length) {r : Rw} (hr : inRw n r) (h : ∀ x, 0 ≤ x → x < n → ws.getD x.toNat 0 = f x) : ∀ x, 0 ≤ x → x < n → (appL ws r).getD x.toNat 0 = app f r x := by
  intro x h0 h1
  obtain ⟨a1, a2, a3, a4⟩ := hr
  obtain ⟨b, i, j⟩ := r
  simp only at a1 a2 a3 a4
  have li : i.toNat < ws.length := by omega
  have lj : j.toNat < ws.length := by omega
  cases b with
  | true =>
    show (ws.set i.toNat (ws.getD j.toNat 0)).getD x.toNat 0 = if x = i then f j else f x
    rw [getD_set _ _ _ _ li, h j a3 a4, h x h0 h1]
    by_cases c : x = i
    · rw [if_pos c, if_pos (by rw [c])]
    · rw [if_neg c, if_neg (by omega)]
  | false =>
    show ((ws.set i.toNat (ws.getD j.toNat 0)).set j.toNat (ws.getD i.toNat 0)).getD x.toNat 0 = if x = i then f j else if x = j then f i else f x
    rw [getD_set _ _ _ _ (by rw [List.length_set]; exact lj), getD_set _ _ _ _ li, h j a3 a4, h x h0 h1, h i a1 a2]
    by_cases c : x = i
    · rw [if_pos c]
      by_cases d : x = j
      · rw [if_pos (by rw [d])]
        rw [← c, d]
      · rw [if_neg (by omega), if_pos (by rw [c])]
    · rw [if_neg c]
      by_cases d : x = j
      · rw [if_pos d, if_pos (by rw [d])]
      · rw [if_neg d, if_neg (by omega), if_neg (by omega)]
theorem run_agree {n : Int} : ∀ (rs : List Rw) {ws : List Int} {f : Int → Int}, n = ws.length → (∀ r ∈ rs, inRw n r) → (∀ x, 0 ≤ x → x < n → ws.getD x.toNat 0 = f x) → ∀ x, 0 ≤ x → x < n → (runL ws rs).getD x.toNat 0 = runR f rs x
  | [], ws, f, _, _, h => h
  | r :: rs, ws, f, hn, hr, h => by
    have len : (appL ws r).length = ws.length := by
      obtain ⟨b, i, j⟩ := r
      cases b with
      | true => exact List.length_set ..
      | false => exact (List.length_set ..).trans (List.length_set ..)
    exact run_agree rs (ws := appL ws r) (f := app f r) (by rw [len]; exact hn) (fun q m => hr q (List.mem_cons_of_mem _ m)) (app_agree hn (hr r List.mem_cons_self) h)
theorem step_regs {P : Int → Prop} {L L' : List Pr} {r : Rw} (h : ∀ p ∈ L, P p.1 ∧ P p.2) (e : stepR L = some (r, L')) : (P r.2.1 ∧ P r.2.2) ∧ ∀ p ∈ L', P p.1 ∧ P p.2 := by
  unfold stepR at e
  cases ef : freeOf L with
  | cons p q =>
    rw [ef] at e
    cases e
    obtain ⟨m, _⟩ := free_mem ef
    exact ⟨h p m, fun z mz => h z (List.mem_filter.mp mz).1⟩
  | nil =>
    rw [ef] at e
    cases L with
    | nil => cases e
    | cons p q =>
      cases e
      refine ⟨h p List.mem_cons_self, fun z mz => ?_⟩
      obtain ⟨z0, m0, e0, _, hh⟩ := mem_turned mz
      obtain ⟨b1, b2⟩ := h z0 (List.mem_cons_of_mem _ m0)
      rcases hh with ⟨_, e2⟩ | ⟨_, e2⟩
      · rw [e0, e2]; exact ⟨b1, (h p List.mem_cons_self).2⟩
      · rw [e2]; exact ⟨b1, b2⟩
theorem rows_regs {P : Int → Prop} : ∀ (n : Nat) (L : List Pr), (∀ p ∈ L, P p.1 ∧ P p.2) → ∀ r ∈ rowsN n L, P r.2.1 ∧ P r.2.2
  | 0, _, _, r, m => nomatch m
  | n + 1, L, h, r, m => by
    have m' : r ∈ (match stepR L with | none => [] | some (r, L') => r :: rowsN n L') := m
    cases e : stepR L with
    | none => rw [e] at m'; cases m'
    | some rl =>
      obtain ⟨r0, L'⟩ := rl
      rw [e] at m'
      obtain ⟨h1, h2⟩ := step_regs h e
      rcases List.mem_cons.mp m' with q | q
      · rw [q]; exact h1
      · exact rows_regs n L' h2 r q
/-! ### the words held -/
def hw (n : Nat) : List Int := (List.range n).map fun k : Nat => ((k : Int) * 977 + 5) % 65536
theorem hw_len (n : Nat) : (hw n).length = n := by unfold hw; rw [List.length_map, List.length_range]
theorem hw_at {n k : Nat} (h : k < n) : (hw n).getD k 0 = ((k : Int) * 977 + 5) % 65536 := by
  unfold hw
  rw [List.getD_eq_getElem?_getD, List.getElem?_map, List.getElem?_range h]
  rfl
theorem hw_inj {a b : Int} (h0 : 0 ≤ a) (h1 : a < 1000) (h2 : 0 ≤ b) (h3 : b < 1000) (e : (a * 977 + 5) % 65536 = (b * 977 + 5) % 65536) : a = b := by omega
/-- what the law says of rows that do the transfers, and of fewer -/
structure LawL (L : List Pr) (wd : Nat) : Prop where
  asc : (tos L).Pairwise (· < ·)
  reg : ∀ p ∈ L, (0 ≤ p.1 ∧ p.1 < (wd : Int)) ∧ 0 ≤ p.2 ∧ p.2 < (wd : Int)
  w1 : wd ≤ 201
  few : L.length ≤ 40
section
variable {L : List Pr} {wd : Nat}
theorem LawL.good (h : LawL L wd) : GoodL (unl L) := unl_goodP h.asc
theorem LawL.ulen (h : LawL L wd) : (unl L).length ≤ 40 := Nat.le_trans (List.length_filter_le _ _) h.few
theorem LawL.rows_in (h : LawL L wd) : ∀ r ∈ rowsN 1000 (unl L), inRw wd r := fun r m => by
  obtain ⟨⟨a, b⟩, c, d⟩ := rows_regs (P := fun x => 0 ≤ x ∧ x < (wd : Int)) 1000 (unl L) (fun p mp => h.reg p (List.mem_filter.mp mp).1) r m
  exact ⟨a, b, c, d⟩
theorem LawL.hwF (h : LawL L wd) : ∀ x, 0 ≤ x → x < (wd : Int) → (hw wd).getD x.toNat 0 = (x * 977 + 5) % 65536 := fun x h0 h1 => by
  rw [hw_at (by omega)]
  congr 2
  omega
theorem LawL.at_ (h : LawL L wd) {rs : List Rw} (hr : ∀ r ∈ rs, inRw wd r) {x : Int} (h0 : 0 ≤ x) (h1 : x < (wd : Int)) : (runL (hw wd) rs).getD x.toNat 0 = runR (fun x => (x * 977 + 5) % 65536) rs x :=
  run_agree rs (by rw [hw_len]) hr h.hwF x h0 h1
theorem LawL.does (h : LawL L wd) : did L (hw wd) (runL (hw wd) (rowsN 1000 (unl L))) = true := by
  refine List.all_eq_true.mpr fun p mp => decide_eq_true ?_
  obtain ⟨⟨a, b⟩, c, d⟩ := h.reg p mp
  obtain ⟨r1, r2⟩ := rows_do 1000 (unl L) h.good (by have := h.ulen; omega) (fun x => (x * 977 + 5) % 65536)
  rw [h.at_ h.rows_in a b, h.hwF _ c d]
  by_cases e : p.1 = p.2
  · rw [r2 p.1 fun m => ?_, e]
    obtain ⟨q, mq, eq⟩ := List.mem_map.mp m
    obtain ⟨m1, m2⟩ := List.mem_filter.mp mq
    have : q = p := fst_inj (h.asc.imp fun a => by omega) m1 mp eq
    rw [this] at m2
    exact of_decide_eq_true m2 e
  · exact r1 p (List.mem_filter.mpr ⟨mp, decide_eq_true e⟩)
theorem LawL.keeps (h : LawL L wd) {x : Int} (h0 : 0 ≤ x) (h1 : x < (wd : Int)) (nx : x ∉ tos L) : (runL (hw wd) (rowsN 1000 (unl L))).getD x.toNat 0 = (hw wd).getD x.toNat 0 := by
  obtain ⟨r1, r2⟩ := rows_do 1000 (unl L) h.good (by have := h.ulen; omega) (fun x => (x * 977 + 5) % 65536)
  rw [h.at_ h.rows_in h0 h1, h.hwF _ h0 h1]
  exact r2 x fun m => nx (((List.filter_sublist ..).map _).subset m)
theorem LawL.fewer (h : LawL L wd) {rs : List Rw} (hr : ∀ r ∈ rs, inRw wd r) (lt : rs.length < (rowsN 1000 (unl L)).length) : did L (hw wd) (runL (hw wd) rs) = false := by
  rw [Bool.eq_false_iff]
  intro z
  have all := List.all_eq_true.mp z
  refine absurd (fewest (n := 1000) h.good (rs := rs) fun p mp => ?_) (by omega)
  have mp' := (List.mem_filter.mp mp).1
  obtain ⟨⟨a, b⟩, c, d⟩ := h.reg p mp'
  have e := of_decide_eq_true (all p mp')
  rw [h.at_ hr a b, h.hwF _ c d, run_comp (fun x => (x * 977 + 5) % 65536) rs (fun x => x)] at e
  obtain ⟨g1, g2⟩ := run_in rs (fun x => x) hr (fun x h0 h1 => ⟨h0, h1⟩) p.1 a b
  have := h.w1
  exact hw_inj g1 (by omega) c (by omega) e
end
end Lk

set_option Elab.async false
set_option linter.all false
set_option maxRecDepth 100000
set_option maxHeartbeats 4000000
namespace Lk
open PySem PySem.Spec PyProof.Rows L2
theorem cr_maxTK {X : Cx} {K : PySem.W.Frag} (e : X.K = K) (hc : X.calm = true) : CallR X (.builtin "max") (rMaxT K) := e ▸ cr_maxT hc
/-- what stands while the law runs -/
structure Held (K : PySem.W.Frag) (l q : Addr) (ns : List Int) (H1 : Hp) (pg bh : Addr) (xd : V) (L : List Pr) (wd : Nat) (G : Hp) : Prop where
  fd : Fd K l q ns H1 G
  got : Dp K (del G l) (.ref pg) (prsD L)
  held : SqT K (del G l) bh (iV (hw wd))
  due : Dp K (del G l) xd (rwsD (rowsN 1000 (unl L)))
section
variable {K : PySem.W.Frag} {l q : Addr} {ns : List Int} {H1 G G' : Hp} {pg bh : Addr} {xd : V} {L : List Pr} {wd : Nat}
theorem Held.take (h : Held K l q ns H1 pg bh xd L wd G) (f : Feed K G' l q ns) (e : Same (del G l) (del G' l)) : Held K l q ns H1 pg bh xd L wd G' := ⟨h.fd.take f e, dp_same e h.got, seqT_same e h.held, dp_same e h.due⟩
theorem Held.same (h : Held K l q ns H1 pg bh xd L wd G) (e : Same G G') : Held K l q ns H1 pg bh xd L wd G' := h.take (feed_mono h.fd.feed e) (same_del l e)
theorem Held.fd' (h : Held K l q ns H1 pg bh xd L wd G) (f : Fd K l q ns G G') : Held K l q ns H1 pg bh xd L wd G' := h.take f.feed f.keep
theorem Held.g (h : Held K l q ns H1 pg bh xd L wd G) : Dp K G (.ref pg) (prsD L) := dp_same (del_le G l) h.got
theorem Held.h (h : Held K l q ns H1 pg bh xd L wd G) : SqT K G bh (iV (hw wd)) := seqT_same (del_le G l) h.held
theorem Held.d (h : Held K l q ns H1 pg bh xd L wd G) : Dp K G xd (rwsD (rowsN 1000 (unl L))) := dp_same (del_le G l) h.due
end
theorem nxt_go {σ : L2.St} {H : Hp} {a c d : L2.St → Hp → Prop} {b : VK} (h : a σ H) : tNext (Ends.mk a b c d) σ H := h
theorem rws_of {K : PySem.W.Frag} {H : Hp} {x : V} {R : List Rw} (h : Dp K H x (rwsD R)) : ∃ (a : Addr) (xs : List V), x = .ref a ∧ SqT K H a xs ∧ DpAll K H xs (R.map rwD) := tup_of h
def spLaw (K : PySem.W.Frag) : Sp := fun vs H Q _ => ∃ (a : Addr) (ns : List Int), vs = [.ref a] ∧ SqL K H a (iV ns) ∧ ns.length ≤ 63 ∧ ∀ H', Q (.bl true) H'
section
variable {P : Program} {w : World} {K : PySem.W.Frag} {mg : Str → Option Value} {base : Heap}
theorem ok_law (T : Txt K mg) : FnOk P w K mg base CX0 8 T.f_law T.d_law ["_law_script"] (spLaw K) := by
  have nd := sc_law.nd
  refine T.F_law.ok sc_law (fun vs H Q E h => ?_) (fun cdv A outer s H vs Q E hr h => ?_)
  · obtain ⟨a, ns, rfl, _⟩ := h
    rfl
  obtain ⟨a, ns0, rfl, hS, h63, k⟩ := h
  have G_transfer_rows : FnOk P w K mg base CX0 6 _ _ _ (spRowsG K) := ok_rowsG T
  have hr_transfer_rows := hr.mono (show 6 ≤ 7 by omega)
  have G_unlike_pairs : FnOk P w K mg base CX0 6 _ _ _ (spCountG K lenI) := ok_unlike_pairsG T
  have hr_unlike_pairs := hr.mono (show 6 ≤ 7 by omega)
  have G_closed_rings : FnOk P w K mg base CX0 6 _ _ _ (spCountG K ringsOf) := ok_ringsG T
  have hr_closed_rings := hr.mono (show 6 ≤ 7 by omega)
  have G_moved_by : FnOk P w K mg base CX0 4 _ _ _ (spMovedG K) := ok_movedG T
  have hr_moved_by := hr.mono (show 4 ≤ 7 by omega)
  have G_is_transfers : FnOk P w K mg base CX0 4 _ _ _ (spIsT K) := ok_is_transfers T
  have hr_is_transfers := hr.mono (show 4 ≤ 7 by omega)
  have G__law_same : FnOk P w K mg base CX0 5 _ _ _ (spSame 4 K) := ok_same T 4
  have hr__law_same := hr.mono (show 5 ≤ 7 by omega)
  have G__law_feed : FnOk P w K mg base CX0 1 _ _ _ (spFeed K) := ok_feed T
  have hr__law_feed := hr.mono (show 1 ≤ 7 by omega)
  have G__law_take : FnOk P w K mg base CX0 1 _ _ _ (spTake K) := ok_take T
  have hr__law_take := hr.mono (show 1 ≤ 7 by omega)
  have G__law_by_hand : FnOk P w K mg base CX0 7 _ _ _ (spHand K) := ok_by_hand T
  have hr__law_by_hand := hr
  have G__law_drawn : FnOk P w K mg base CX0 3 _ _ _ (spDrawn K) := ok_drawn T
  have hr__law_drawn := hr.mono (show 3 ≤ 7 by omega)
  have G__law_rows : FnOk P w K mg base CX0 1 _ _ _ (spRows K) := ok_rows T
  have hr__law_rows := hr.mono (show 1 ≤ 7 by omega)
  have G__law_counts : FnOk P w K mg base CX0 1 _ _ _ (spCounts K) := ok_counts T
  have hr__law_counts := hr.mono (show 1 ≤ 7 by omega)
  have G__law_run : FnOk P w K mg base CX0 1 _ _ _ (spRun K) := ok_run T
  have hr__law_run := hr.mono (show 1 ≤ 7 by omega)
  have G__law_did : FnOk P w K mg base CX0 1 _ _ _ (spDid K) := ok_did T
  have hr__law_did := hr.mono (show 1 ≤ 7 by omega)
  have G__law_other : FnOk P w K mg base CX0 2 _ _ _ (spOther K) := ok_other T
  have hr__law_other := hr.mono (show 2 ≤ 7 by omega)
  have G__law_thing : FnOk P w K mg base CX0 1 _ _ _ (spThing K) := ok_thing T
  have hr__law_thing := hr.mono (show 1 ≤ 7 by omega)
  have G__law_reads_as : FnOk P w K mg base CX0 1 _ _ _ (spReads K) := ok_reads_as T
  have hr__law_reads_as := hr.mono (show 1 ≤ 7 by omega)
  have G__law_pairs_refused : FnOk P w K mg base CX0 7 _ _ _ (spPairsR K) := ok_pairs_refused T
  have hr__law_pairs_refused := hr
  have G__law_rows_refused : FnOk P w K mg base CX0 6 _ _ _ (spRowsR K) := ok_rows_refused T
  have hr__law_rows_refused := hr.mono (show 6 ≤ 7 by omega)
  refine ⟨_, (pss_cons (ps_set (i := 1) nd rfl (Or.inl rfl) (pe_call G__law_feed hr__law_feed rfl T.m__law_feed T.k__law_feed T.b__law_feed .nil pass0 (pa_cons (pv 0) pa_nil)))
      (pss_cons (ps_if (pt_cmpR op_eq (pe_call G__law_take hr__law_take rfl T.m__law_take T.k__law_take T.b__law_take .nil pass0 (pa_cons (pv 1) (pa_cons pe_int pa_nil))) pe_int (nomark _)) (pss_one (ps_ret (pe_call G__law_by_hand hr__law_by_hand rfl T.m__law_by_hand T.k__law_by_hand T.b__law_by_hand .nil pass0 (pa_cons (pe_call G__law_take hr__law_take rfl T.m__law_take T.k__law_take T.b__law_take .nil pass0 (pa_cons (pv 1) (pa_cons pe_int pa_nil))) pa_nil)))) pss_nil)
      (pss_cons (ps_set (i := 2) nd rfl (Or.inl rfl) (pe_call G__law_drawn hr__law_drawn rfl T.m__law_drawn T.k__law_drawn T.b__law_drawn .nil pass0 (pa_cons (pv 1) pa_nil)))
      (pss_cons (ps_set (i := 3) nd rfl (Or.inl rfl) (pe_op op_add (pe_callB (cr_max rfl) (by rfl) T.z_max (by decide +kernel) (pa_cons (pe_op op_cat (pe_lst (pa_cons pe_int pa_nil)) (pe_lc (own := [("_law_pair", 14)]) (g := gName 14) (tt := tYes) (by rfl) nd (pi_tup (pv 2)) (blkOk_by (own := [("_law_pair", 14)]) (N := sl_law) (sc := defScope s_law) (by decide +kernel)) (fun _ _ _ _ _ => pg_name (i := 14) nd rfl (Or.inl rfl)) (fun _ _ _ _ _ => pts_nil) (fun _ _ _ _ _ => (pe_callB (cr_maxTK (K := K) rfl rfl) (by rfl) T.z_max (by decide +kernel) (pa_cons (pv 14) pa_nil))))) pa_nil)) pe_int))
      (pss_cons (ps_set (i := 4) nd rfl (Or.inr rfl) (pe_callTy call_tuple_of (by rfl) T.z_tuple (by decide +kernel) (pa_cons (pe_lc (own := [("_law_k", 15)]) (g := gName 15) (tt := tYes) (by rfl) nd (pi_range1 (by rfl) T.z_range (pa_cons (pv 3) pa_nil)) (blkOk_by (own := [("_law_k", 15)]) (N := sl_law) (sc := defScope s_law) (by decide +kernel)) (fun _ _ _ _ _ => pg_name (i := 15) nd rfl (Or.inl rfl)) (fun _ _ _ _ _ => pts_nil) (fun _ _ _ _ _ => (pe_op op_modN (pe_callTy call_int1 (by rfl) T.z_int (by decide +kernel) (pa_cons (pe_op op_add (pe_op op_mul (pv 15) pe_int) pe_int) pa_nil)) pe_int))) pa_nil)))
      (pss_cons (ps_set (i := 5) nd rfl (Or.inl rfl) (pe_call G__law_rows hr__law_rows rfl T.m__law_rows T.k__law_rows T.b__law_rows .nil pass0 (pa_cons (pv 2) pa_nil)))
      (pss_cons (ps_set (i := 6) nd rfl (Or.inl rfl) (pe_call G__law_counts hr__law_counts rfl T.m__law_counts T.k__law_counts T.b__law_counts .nil pass0 (pa_cons (pv 2) pa_nil)))
      (pss_cons (ps_set (i := 7) nd rfl (Or.inl rfl) (pe_call G_transfer_rows hr_transfer_rows rfl T.m_transfer_rows T.k_transfer_rows T.b_transfer_rows .nil pass0 (pa_cons (pv 2) pa_nil)))
      (pss_cons (ps_if (PW.pt (pw_or (pt_not (pt_val (pe_call G__law_same hr__law_same rfl T.m__law_same T.k__law_same T.b__law_same .nil pass0 (pa_cons (pv 7) (pa_cons (pv 5) pa_nil))))) (pw_or1 (pt_not (pt_val (pe_call G__law_same hr__law_same rfl T.m__law_same T.k__law_same T.b__law_same .nil pass0 (pa_cons (pe_tup (pa_cons (pe_call G_unlike_pairs hr_unlike_pairs rfl T.m_unlike_pairs T.k_unlike_pairs T.b_unlike_pairs .nil pass0 (pa_cons (pv 2) pa_nil)) (pa_cons (by exact (pe_callKS (E := fun _ => E0) G_closed_rings hr_closed_rings rfl T.m_closed_rings T.k_closed_rings T.w_closed_rings_pairs passAt0 (pk_cons (pv 2) pk_nil))) pa_nil))) (pa_cons (pv 6) pa_nil)))))))) (pss_one (ps_ret pe_bl)) pss_nil)
      (pss_cons (ps_if (PW.pt (pw_or (pt_cmpR op_ne (pe_callB call_len_seq (by rfl) T.z_len PySem.boot_len (pa_cons (pv 7) pa_nil)) (pe_op op_sub (pe_ix ix_tup (pv 6) pe_int (fun _ _ => rfl)) (pe_ix ix_tup (pv 6) pe_int (fun _ _ => rfl))) (nomark _)) (pw_or1 (pt_cmpR op_notBl (pe_call G_is_transfers hr_is_transfers rfl T.m_is_transfers T.k_is_transfers T.b_is_transfers .nil pass0 (pa_cons (pv 2) pa_nil)) pe_bl (nomark _))))) (pss_one (ps_ret pe_bl)) pss_nil)
      (pss_cons (ps_set (i := 8) nd rfl (Or.inr rfl) (pe_call G_moved_by hr_moved_by rfl T.m_moved_by T.k_moved_by T.b_moved_by .nil pass0 (pa_cons (pv 7) (pa_cons (pv 4) pa_nil))))
      (pss_cons (ps_if (PW.pt (pw_or (pt_not (pt_val (pe_call G__law_same hr__law_same rfl T.m__law_same T.k__law_same T.b__law_same .nil pass0 (pa_cons (pv 8) (pa_cons (pe_call G__law_run hr__law_run rfl T.m__law_run T.k__law_run T.b__law_run .nil pass0 (pa_cons (pv 5) (pa_cons (pv 4) pa_nil))) pa_nil))))) (pw_or1 (pt_not (pt_val (pe_call G__law_did hr__law_did rfl T.m__law_did T.k__law_did T.b__law_did .nil pass0 (pa_cons (pv 2) (pa_cons (pv 4) (pa_cons (pv 8) pa_nil))))))))) (pss_one (ps_ret pe_bl)) pss_nil)
      (pss_cons (ps_set (i := 9) nd rfl (Or.inr rfl) (pe_lc (own := [("_law_pair", 14)]) (g := gName 14) (tt := tYes) (by rfl) nd (pi_tup (pv 2)) (blkOk_by (own := [("_law_pair", 14)]) (N := sl_law) (sc := defScope s_law) (by decide +kernel)) (fun _ _ _ _ _ => pg_name (i := 14) nd rfl (Or.inl rfl)) (fun _ _ _ _ _ => pts_nil) (fun _ _ _ _ _ => (pe_ix (ix_tupK (K := K) rfl) (pv 14) pe_int (fun _ _ => rfl)))))
      (pss_cons (ps_if (pt_truth (pe_lc (own := [("_law_r", 16)]) (g := gName 16) (by rfl) nd (pi_range1 (by rfl) T.z_range (pa_cons (pv 3) pa_nil)) (blkOk_by (own := [("_law_r", 16)]) (N := sl_law) (sc := defScope s_law) (by decide +kernel)) (fun _ _ _ _ _ => pg_name (i := 16) nd rfl (Or.inl rfl)) (fun _ _ _ _ _ => (pts_one (PW.pt (pw_and (pt_cmpR (op_notInK (K := K) rfl) (pv 16) (pv 9) (by rfl)) (pw_and1 (pt_cmpR op_ne (pe_ix (ix_tupK (K := K) rfl) (pv 8) (pv 16) (fun _ _ => rfl)) (pe_ix (ix_tupK (K := K) rfl) (pv 4) (pv 16) (fun _ _ => rfl)) (nomark _))))))) (fun _ _ _ _ _ => (pv 16))) (by intro _; rfl)) (pss_one (ps_ret pe_bl)) pss_nil)
      (pss_cons (ps_if (pt_truth (pv 5) (by intro _; rfl)) (pss_cons (ps_set (i := 10) nd rfl (Or.inl rfl) (pe_call G__law_take hr__law_take rfl T.m__law_take T.k__law_take T.b__law_take .nil pass0 (pa_cons (pv 1) (pa_cons (pe_callB call_len_seq (by rfl) T.z_len PySem.boot_len (pa_cons (pv 5) pa_nil)) pa_nil))))
      (pss_one (ps_for PassesOwn.never rfl (pi_list (pe_lst (pa_cons (pe_op op_catS (pe_slice sl_tupS (pv 5) po_none (po_some (pv 10))) (pe_slice sl_tupS (pv 5) (po_some (pe_op op_add (pv 10) pe_int)) po_none)) (pa_cons (pe_call G__law_other hr__law_other rfl T.m__law_other T.k__law_other T.b__law_other .nil pass0 (pa_cons (pv 1) (pa_cons (pv 3) (pa_cons (pe_call G__law_take hr__law_take rfl T.m__law_take T.k__law_take T.b__law_take .nil pass0 (pa_cons (pv 1) (pa_cons (pe_callB call_len_seq (by rfl) T.z_len PySem.boot_len (pa_cons (pv 5) pa_nil)) pa_nil))) pa_nil)))) pa_nil)))) (pg_name (i := 11) nd rfl (Or.inl rfl))
      (pss_cons (ps_set (i := 8) nd rfl (Or.inr rfl) (by exact (pe_callKS (E := fun _ => E0) G_moved_by hr_moved_by rfl T.m_moved_by T.k_moved_by T.w_moved_by_rows_words passAt0 (pk_cons (pv 11) (pk_cons (pv 4) pk_nil)))))
      (pss_one (ps_if (PW.pt (pw_or (pt_not (pt_val (pe_call G__law_same hr__law_same rfl T.m__law_same T.k__law_same T.b__law_same .nil pass0 (pa_cons (pv 8) (pa_cons (pe_call G__law_run hr__law_run rfl T.m__law_run T.k__law_run T.b__law_run .nil pass0 (pa_cons (pv 11) (pa_cons (pv 4) pa_nil))) pa_nil))))) (pw_or1 (pt_val (pe_call G__law_did hr__law_did rfl T.m__law_did T.k__law_did T.b__law_did .nil pass0 (pa_cons (pv 2) (pa_cons (pv 4) (pa_cons (pv 8) pa_nil)))))))) (pss_one (ps_ret pe_bl)) pss_nil)))))) pss_nil)
      (pss_cons (ps_set (i := 12) nd rfl (Or.inl rfl) (pe_call G__law_other hr__law_other rfl T.m__law_other T.k__law_other T.b__law_other .nil pass0 (pa_cons (pv 1) (pa_cons (pv 3) (pa_cons (pe_call G__law_take hr__law_take rfl T.m__law_take T.k__law_take T.b__law_take .nil pass0 (pa_cons (pv 1) (pa_cons pe_int pa_nil))) pa_nil)))))
      (pss_cons (ps_if (pt_not (pt_val (pe_call G__law_same hr__law_same rfl T.m__law_same T.k__law_same T.b__law_same .nil pass0 (pa_cons (pe_call G_moved_by hr_moved_by rfl T.m_moved_by T.k_moved_by T.b_moved_by .nil pass0 (pa_cons (pv 12) (pa_cons (pv 4) pa_nil))) (pa_cons (pe_call G__law_run hr__law_run rfl T.m__law_run T.k__law_run T.b__law_run .nil pass0 (pa_cons (pv 12) (pa_cons (pv 4) pa_nil))) pa_nil))))) (pss_one (ps_ret pe_bl)) pss_nil)
      (pss_cons (ps_set (i := 13) nd rfl (Or.inl rfl) (pe_call G__law_thing hr__law_thing rfl T.m__law_thing T.k__law_thing T.b__law_thing .nil pass0 (pa_cons (pe_op op_modN (pe_callTy call_int1 (by rfl) T.z_int (by decide +kernel) (pa_cons (pe_call G__law_take hr__law_take rfl T.m__law_take T.k__law_take T.b__law_take .nil pass0 (pa_cons (pv 1) (pa_cons pe_int pa_nil))) pa_nil)) pe_int) (pa_cons (pv 2) pa_nil))))
      (pss_cons (ps_if (pt_not (pt_val (pe_call G__law_same hr__law_same rfl T.m__law_same T.k__law_same T.b__law_same .nil pass0 (pa_cons (by exact (pe_callKS (E := fun _ => E0) G_is_transfers hr_is_transfers rfl T.m_is_transfers T.k_is_transfers T.w_is_transfers_thing passAt0 (pk_cons (pv 13) pk_nil))) (pa_cons (pe_call G__law_reads_as hr__law_reads_as rfl T.m__law_reads_as T.k__law_reads_as T.b__law_reads_as .nil pass0 (pa_cons (pv 13) pa_nil)) pa_nil))))) (pss_one (ps_ret pe_bl)) pss_nil)
      (pss_cons (ps_if (PW.pt (pw_and (pt_not (pt_val (pe_call G__law_reads_as hr__law_reads_as rfl T.m__law_reads_as T.k__law_reads_as T.b__law_reads_as .nil pass0 (pa_cons (pv 13) pa_nil)))) (pw_and1 (pt_not (pt_val (pe_call G__law_pairs_refused hr__law_pairs_refused rfl T.m__law_pairs_refused T.k__law_pairs_refused T.b__law_pairs_refused .nil pass0 (pa_cons (pv 13) (pa_cons (pe_call G__law_take hr__law_take rfl T.m__law_take T.k__law_take T.b__law_take .nil pass0 (pa_cons (pv 1) (pa_cons pe_int pa_nil))) pa_nil)))))))) (pss_one (ps_ret pe_bl)) pss_nil)
      (pss_one (ps_ret (pe_and (pe_call G__law_rows_refused hr__law_rows_refused rfl T.m__law_rows_refused T.k__law_rows_refused T.b__law_rows_refused .nil pass0 (pa_cons (pe_call G__law_take hr__law_take rfl T.m__law_take T.k__law_take T.b__law_take .nil pass0 (pa_cons (pv 1) (pa_cons pe_int pa_nil))) (pa_cons (pv 4) pa_nil))) (pe_one (pe_call G__law_same hr__law_same rfl T.m__law_same T.k__law_same T.b__law_same .nil pass0 (pa_cons (by exact (pe_callKS (E := fun _ => E0) G_transfer_rows hr_transfer_rows rfl T.m_transfer_rows T.k_transfer_rows T.w_transfer_rows_pairs passAt0 (pk_cons (pv 2) pk_nil))) (pa_cons (pv 5) pa_nil))))))))))))))))))))))))))), ?_⟩
  refine ⟨_, rfl, a, ns0, rfl, hS, h63, fun l H1 e1 q ns hl0 hf => ?_⟩
  refine ⟨_, rfl, l, 8, q, ns, rfl, hf, by omega, by omega, fun x H2 x0 x1 f2 k2 => ⟨rfl, _, rfl, ?_⟩⟩
  have g2 := (Fd.refl hf).take f2 k2
  refine ite2 (fun c => ?_) (fun c => ?_)
  · refine ⟨_, rfl, l, 6, q, ns, rfl, g2.feed, by omega, by omega, fun y H3 y0 y1 f3 k3 => ?_⟩
    obtain ⟨yn, rfl⟩ := Int.eq_ofNat_of_zero_le y0
    exact ⟨yn, rfl, by omega, fun H' _ => k H'⟩
  refine ⟨_, rfl, l, q, ns, rfl, g2.feed, fun pg L H3 fd3 hd3 asc few reg => ?_⟩
  have g3 := g2.trans fd3
  have hg3 : Dp K H3 (.ref pg) (prsD L) := dp_same (del_le H3 l) hd3
  -- the width
  refine ⟨(by show 1 ≤ sizeLine; decide), fun z0 hz0 => ?_⟩
  have e4 := same_new hz0 (.lst [.int 0])
  have ez0 : (upd H3 z0 (.lst [.int 0])) z0 = some (.lst [.int 0]) := upd_same
  generalize upd H3 z0 (.lst [.int 0]) = H4 at e4 ez0 ⊢
  obtain ⟨pg', xs, epg, hpt, hxs⟩ := tup_of (dp_same e4 hg3)
  obtain rfl := V.ref.inj epg
  have lxs : xs.length = L.length := by rw [dp_len hxs, List.length_map]
  refine ⟨_, rfl, pg, rfl, ⟨_, hpt⟩, fun D hD => ?_⟩
  refine lc_tup (K := K) (a := pg) (xs := xs) (fun i H' => Same H4 H' ∧ ∃ ms : List Int, H' D = some (.lst (iV ms)) ∧ ms.length = i ∧ (∀ p ∈ L.take i, ∃ m ∈ ms, p.1 ≤ m ∧ p.2 ≤ m) ∧ ∀ m ∈ ms, 0 ≤ m ∧ m < 200) ?_ ?_ ?_ ?_
  · exact ⟨same_new hD _, [], upd_same, rfl, (fun p m => nomatch m), fun m h => nomatch h⟩
  · rintro i H' _ ⟨e, _⟩
    exact seqT_same e hpt
  · rintro i z H' hiz ⟨e, ms, eD, lms, hms, hmb⟩
    obtain ⟨p, t, hp, rfl, ht⟩ := prs_get hxs hiz
    have hi : i < xs.length := (List.getElem?_eq_some_iff.mp hiz).1
    refine ⟨rfl, ?_⟩
    refine ⟨_, rfl, t, [p.1, p.2], rfl, seqT_same e ht, Nat.succ_pos _, fun m hm1 hm2 => ?_⟩
    refine ⟨_, eD, (by rw [iV_len]; exact szl (by omega)), same_mut e hD, ms ++ [m], by rw [upd_same, iV_app], by rw [List.length_append, lms]; rfl, fun r mr => ?_, fun y my => ?_⟩
    · rw [show L.take (i + 1) = L.take i ++ [p] by rw [List.take_succ, hp]; rfl] at mr
      rcases List.mem_append.mp mr with mr | mr
      · obtain ⟨m', a1, a2⟩ := hms r mr
        exact ⟨m', List.mem_append_left _ a1, a2⟩
      · rw [List.mem_singleton.mp mr]
        exact ⟨m, List.mem_append_right _ List.mem_cons_self, hm2 _ List.mem_cons_self, hm2 _ (List.mem_cons_of_mem _ List.mem_cons_self)⟩
    · rcases List.mem_append.mp my with my | my
      · exact hmb y my
      · rw [List.mem_singleton.mp my]
        obtain ⟨b1, b2, b3, b4⟩ := reg p (List.mem_of_getElem? hp)
        rcases List.mem_cons.mp hm1 with c1 | c1
        · rw [c1]; exact ⟨b1, b2⟩
        · rw [List.mem_singleton.mp c1]; exact ⟨b3, b4⟩
  rintro H5 ⟨e5, ms, eD, lms, hms, hmb⟩
  rw [lxs, List.take_length] at hms
  refine ⟨z0, D, _, _, rfl, rfl, e5 _ _ ez0, eD, (by rw [iV_len]; show 1 + ms.length ≤ _; exact Nat.le_of_lt (szl (by omega))), fun cc hcc => ⟨cc, 0 :: ms, rfl, SqL.of upd_same, Nat.succ_pos _, fun M hM1 hM2 => ⟨_, _, rfl, rfl, ?_⟩⟩⟩
  have M0 : 0 ≤ M := hM2 0 List.mem_cons_self
  have M1 : M < 200 := by
    rcases List.mem_cons.mp hM1 with c1 | c1
    · omega
    · exact (hmb M c1).2
  obtain ⟨mn, rfl⟩ := Int.eq_ofNat_of_zero_le M0
  have LL : LawL L (mn + 1) := ⟨asc, fun p mp => by
    obtain ⟨b1, b2, b3, b4⟩ := reg p mp
    obtain ⟨m', a1, a2, a3⟩ := hms p mp
    have := hM2 m' (List.mem_cons_of_mem _ a1)
    exact ⟨⟨b1, by omega⟩, b3, by omega⟩, by omega, few⟩
  have e36 : Same H3 (upd H5 cc (.lst (iV (0 :: ms)))) := (e4.trans e5).trans (same_new hcc _)
  have g6 := g3.grow e36
  have hd6 : Dp K (del (upd H5 cc (.lst (iV (0 :: ms)))) l) (.ref pg) (prsD L) := dp_same (same_del l e36) hd3
  show tSeq _ _ _ (List.set _ _ (some (V.int ((mn + 1 : Nat) : Int)))) (upd H5 cc (.lst (iV (0 :: ms))))
  generalize upd H5 cc (.lst (iV (0 :: ms))) = H6 at g6 hd6 ⊢
  have wpos : 0 < mn + 1 := Nat.succ_pos _
  generalize mn + 1 = wd at LL wpos ⊢
  have w1 := LL.w1
  -- the words held
  refine ⟨_, rfl, (wd : Int), rfl, by omega, by omega, fun D7 hD7 => ?_⟩
  refine lc_range (lo := 0) (n := (wd : Int).toNat) (fun j H' => Same H6 H' ∧ H' D7 = some (.lst (iV (hw j)))) ?_ ?_ ?_
  · exact ⟨same_new hD7 _, upd_same⟩
  · rintro j H' hj ⟨e, eD⟩
    have hj2 : j < wd := by omega
    refine ⟨rfl, ?_⟩
    refine ⟨_, rfl, _, _, rfl, rfl, .inr ⟨by decide, by decide⟩, _, _, rfl, rfl, .inl ⟨_, rfl, _, _, rfl, rfl, (by show (65536 : Int) ≠ 0; decide), _, eD, (by rw [iV_len, hw_len]; exact szl (by omega)), same_mut e hD7, ?_⟩⟩
    rw [upd_same, iV_app]
    have : hw (j + 1) = hw j ++ [(((0 : Int) + (j : Int)) * 977 + 5).fmod 65536] := by
      unfold hw
      rw [List.range_succ, List.map_append, Int.zero_add, Int.fmod_eq_emod_of_nonneg _ (by decide)]
      rfl
    rw [this]
  rintro H7 ⟨e67, eD7⟩
  rw [show (wd : Int).toNat = wd by omega] at eD7
  refine ⟨D7, _, rfl, .inl ⟨SqL.of eD7, fun bh hbh => ?_⟩⟩
  have e68 : Same H6 (upd H7 bh (.tup (iV (hw wd)))) := e67.trans (same_new hbh _)
  have g8 := g6.grow e68
  have hd8 : Dp K (del (upd H7 bh (.tup (iV (hw wd)))) l) (.ref pg) (prsD L) := dp_same (same_del l e68) hd6
  have nbl := feed_ne (g6.grow e67).feed hbh
  have hb8 : SqT K (del (upd H7 bh (.tup (iV (hw wd)))) l) bh (iV (hw wd)) := SqT.of (by rw [del_ne nbl]; exact upd_same)
  generalize upd H7 bh (.tup (iV (hw wd))) = H8 at g8 hd8 hb8 ⊢
  have hR := LL.rows_in
  have hu := LL.ulen
  have gU := LL.good
  have hpos : ∀ p ∈ L, 0 ≤ p.1 ∧ 0 ≤ p.2 := fun p mp => ⟨(reg p mp).1, (reg p mp).2.2.1⟩
  have hT := isT_prsD hpos asc
  have htl : tlen (prsD L) ≤ 1000 := by rw [tlen_prsD]; omega
  have Rlen : (rowsN 1000 (unl L)).length + cnt (Rep geI (nxt (unl L))) (tos (unl L)) = (unl L).length := rows_rings 1000 (unl L) gU (by omega)
  have lR : (rowsN 1000 (unl L)).length ≤ 40 := by omega
  -- the due rows, the counts, what is told
  refine ⟨_, rfl, _, L, rfl, dp_same (del_le H8 l) hd8, asc, by omega, fun xd H9 e9 hx9 => ?_⟩
  have nxl : Dp K (del H9 l) (.ref xd) (rwsD (rowsN 1000 (unl L))) := by
    obtain ⟨pp, b, s0, c0, el, _⟩ := (g8.grow e9).feed
    exact dp_off el (noLs_rws _) hx9
  have S9 : Held K l q ns H1 pg bh (.ref xd) L wd H9 := ⟨g8.grow e9, dp_same (same_del l e9) hd8, seqT_same (same_del l e9) hb8, nxl⟩
  refine ⟨_, rfl, _, L, rfl, S9.g, asc, by omega, fun ct H10 e10 hct => ?_⟩
  have S10 := S9.same e10
  refine ⟨_, rfl, _, prsD L, rfl, S10.g, htl, hT, fun z H11 e11 hz => ?_⟩
  have S11 := S10.same e11
  rw [prsOf_prsD] at hz
  have hct11 := seqT_same e11 hct
  -- the first test
  refine ⟨_, rfl, _, rfl, z, _, _, rfl, hz, S11.d, plain_rwsD (by omega) 1, _, rfl, ?_⟩
  refine iteF ?_
  refine ⟨_, rfl, _, prsD L, rfl, S11.g, htl, hT, fun H12 e12 => ?_⟩
  have S12 := S11.same e12
  refine ⟨_, rfl, _, prsD L, rfl, S12.g, htl, hT, fun H13 e13 => ?_⟩
  have S13 := S12.same e13
  rw [prsOf_prsD, rings_same gU]
  refine ⟨(by show 2 ≤ sizeLine; decide), fun t ht => ?_⟩
  have e14 := same_new ht (.tup [.int (lenI (unl L)), .int (rings1 (unl L))])
  have S14 := S13.same e14
  have hct14 := seqT_same ((e12.trans e13).trans e14) hct11
  have dl : ∀ {H : Hp} {i j : Int}, DpAll K H [.int i, .int j] [.int i, .int j] := fun {H i j} => .cons (.int i) (.cons (.int j) .nil)
  refine ⟨_, rfl, _, _, .tuple [.int (lenI (unl L)), .int (rings1 (unl L))], rfl, .tup (SqT.of upd_same) dl, .tup hct14 dl, rfl, _, rfl, ?_⟩
  have hz14 := dp_same ((e12.trans e13).trans e14) hz
  generalize upd H13 t (.tup [.int (lenI (unl L)), .int (rings1 (unl L))]) = H14 at *
  refine iteF ?_
  -- how many rows, and that they are transfers
  obtain ⟨tz, tys, rfl, htz, htys⟩ := tup_of hz14
  have ltz : tys.length = (rowsN 1000 (unl L)).length := by rw [dp_len htys, List.length_map]
  have rEq := rings_same gU
  rw [rings_of gU (by omega)] at rEq
  refine ⟨_, rfl, tz, tys, rfl, .inr htz, _, rfl, ct, _, _, _, rfl, rfl, hct14, at2.1, _, rfl, ct, _, _, _, rfl, rfl, hct14, at2.2, _, _, rfl, rfl, rfl, _, rfl, ?_⟩
  refine ifF (ne_f (by rw [ltz]; show ((rowsN 1000 (unl L)).length : Int) = ((unl L).length : Int) - (rings1 (unl L) : Int); omega)) ?_
  refine ⟨_, rfl, _, prsD L, rfl, S14.g, htl, fun H15 e15 => ⟨_, true, rfl, rfl, _, rfl, ?_⟩⟩
  rw [hT]
  refine iteF ?_
  have S15 := S14.same e15
  have hz15 := dp_same e15 hz14
  have mvs : isMvs ((hw wd).length : Int) (rwsD (rowsN 1000 (unl L))) = true := by rw [hw_len]; exact isMvs_rwsD hR
  refine ⟨_, rfl, _, rfl, .ref tz, rwsD (rowsN 1000 (unl L)), bh, hw wd, rfl, hz15, by rw [tlen_rwsD]; omega, calm_rwsD _, S15.h, mvs, fun nw H16 e16 hnw => ?_⟩
  have S16 := S15.same e16
  rw [rwsOf_rwsD] at hnw
  refine ⟨_, rfl, _, rfl, _, rfl, .ref xd, rwsD (rowsN 1000 (unl L)), bh, hw wd, rfl, S16.d, S16.h, mvs, fun rn H17 e17 hrn => ?_⟩
  have S17 := S16.same e17
  rw [rwsOf_rwsD] at hrn
  have hnw17 := seqT_same e17 hnw
  have lrun : (runL (hw wd) (rowsN 1000 (unl L))).length = wd := by rw [runL_len, hw_len]
  refine ⟨_, _, .tuple ((runL (hw wd) (rowsN 1000 (unl L))).map .int), rfl, dp_iV hnw17, dp_iV hrn, plain_ints (by omega) 2, _, rfl, iteF ?_⟩
  have inb : ∀ p ∈ L, p.1.toNat < wd ∧ p.2.toNat < wd := fun p mp => by
    obtain ⟨⟨a1, a2⟩, a3, a4⟩ := LL.reg p mp
    exact ⟨by omega, by omega⟩
  refine ⟨_, rfl, _, rfl, _, rfl, .ref pg, prsD L, bh, nw, hw wd, runL (hw wd) (rowsN 1000 (unl L)), rfl, S17.g, hT, S17.h, hnw17, ?_, _, rfl, ?_⟩
  · rw [prsOf_prsD, lrun, hw_len]; exact inb
  rw [prsOf_prsD, LL.does]
  refine iteF ?_
  -- the tos
  obtain ⟨pg', xs, epg, hpt, hxs⟩ := tup_of S17.g
  obtain rfl := V.ref.inj epg
  have lxs : xs.length = L.length := by rw [dp_len hxs, List.length_map]
  refine ⟨_, rfl, pg, rfl, ⟨_, hpt⟩, fun ta hta => ?_⟩
  refine lc_tup (K := K) (a := pg) (xs := xs) (fun i H' => Same H17 H' ∧ H' ta = some (.lst (iV (tos (L.take i))))) ?_ ?_ ?_ ?_
  · exact ⟨same_new hta _, upd_same⟩
  · rintro i H' _ ⟨e, _⟩
    exact seqT_same e hpt
  · rintro i y H' hiy ⟨e, eD⟩
    obtain ⟨p, t, hp, rfl, ht⟩ := prs_get hxs hiy
    have hi : i < xs.length := (List.getElem?_eq_some_iff.mp hiy).1
    refine ⟨rfl, ?_⟩
    refine ⟨_, rfl, t, _, _, _, rfl, rfl, seqT_same e ht, at2.1, _, eD, (by rw [iV_len]; unfold tos; rw [List.length_map, List.length_take]; exact szl (by omega)), same_mut e hta, ?_⟩
    rw [upd_same, iV_app, List.take_succ, hp]
    unfold tos
    rw [List.map_append]
    rfl
  rintro H18 ⟨e18, eta⟩
  rw [lxs, List.take_length] at eta
  have S18 := S17.same e18
  have hnw18 := seqT_same e18 hnw17
  refine ⟨_, rfl, (wd : Int), rfl, by omega, by omega, fun D2 hD2 => ?_⟩
  refine lc_range (lo := 0) (n := (wd : Int).toNat) (fun j H' => Same H18 H' ∧ H' D2 = some (.lst [])) ?_ ?_ ?_
  · exact ⟨same_new hD2 _, upd_same⟩
  · rintro j H' hj ⟨e, eD⟩
    have hj2 : j < wd := by omega
    refine ⟨rfl, ?_⟩
    rw [show (0 : Int) + (j : Int) = (j : Int) by omega]
    refine ⟨_, rfl, _, rfl, ta, iV (tos L), rfl, .inl (SqL.of (e _ _ eta)), rfl, all_flat (tos L), _, rfl, ?_⟩
    have ei : inV (.int (j : Int)) (iV (tos L)) = decide ((j : Int) ∈ tos L) := inV_ints
    by_cases cj : (j : Int) ∈ tos L
    · refine ifF (by show (!inV (.int (j : Int)) (iV (tos L))) = false; rw [ei, decide_eq_true cj]; rfl) ?_
      refine iteF ?_
      exact ⟨e, eD⟩
    · refine ifT (by show (!inV (.int (j : Int)) (iV (tos L))) = true; rw [ei, decide_eq_false cj]; rfl) ?_
      refine ⟨_, rfl, _, rfl, nw, _, _, _, rfl, rfl, seqT_same e hnw18, atI_nat (iV_at (by rw [lrun]; exact hj2)), _, rfl, _, rfl, bh, _, _, _, rfl, rfl, seqT_same e S18.h, atI_nat (iV_at (by rw [hw_len]; exact hj2)), rfl, _, rfl, ?_⟩
      refine ifF (ne_f (LL.keeps (x := (j : Int)) (by omega) (by omega) cj)) ?_
      exact ⟨e, eD⟩
  rintro H19 ⟨e19, eD2⟩
  refine ⟨_, .inl ⟨_, SqL.of eD2, rfl⟩, ?_⟩
  refine iteF ?_
  have S19 := S18.same e19
  refine nxt_go ?_
  refine seq_mid (t1 := tIfS _ _ _) (fun σ' G => ∃ (o8 o10 o11 : Option V), σ' = [some (.ref a), some (.ref l), some (.ref pg), some (.int (wd : Int)), some (.ref bh), some (.ref xd), some (.ref ct), some (.ref tz), o8, some (.ref ta), o10, o11, none, none, none, none, none] ∧
    Held K l q ns H1 pg bh (.ref xd) L wd G) ?_ ?_
  · rintro σ' G ⟨o8, o10, o11, rfl, S⟩
    refine ⟨_, rfl, _, rfl, _, rfl, l, 13, q, ns, rfl, S.fd.feed, by omega, by omega, fun m Ga m0 m1 fa ka => ?_⟩
    have Sa := S.take fa ka
    refine ⟨l, (wd : Int), m, q, ns, rfl, Sa.fd.feed, by omega, by omega, by omega, by omega, fun po R2 Gb fb hR2 lR2 inR2 => ?_⟩
    have Sb := Sa.fd' fb
    have hR2b := dp_same (del_le Gb l) hR2
    have mv2 : isMvs ((hw wd).length : Int) (rwsD R2) = true := by rw [hw_len]; exact isMvs_rwsD inR2
    have tl2 : tlen (rwsD R2) ≤ 1000 := by rw [tlen_rwsD]; omega
    refine ⟨_, rfl, _, rfl, .ref po, rwsD R2, bh, hw wd, rfl, hR2b, tl2, calm_rwsD _, Sb.h, mv2, fun n1 Gc ec hn1 => ?_⟩
    have Sc := Sb.same ec
    refine ⟨_, rfl, _, rfl, .ref po, rwsD R2, bh, hw wd, rfl, dp_same ec hR2b, Sc.h, mv2, fun n2 Gd ed hn2 => ?_⟩
    have Sd := Sc.same ed
    refine ⟨_, _, .tuple ((runL (hw wd) (rwsOf (rwsD R2))).map .int), rfl, dp_iV (seqT_same ed hn1), dp_iV hn2, plain_ints (by rw [runL_len, hw_len]; omega) 2, _, rfl, iteF ?_⟩
    -- the thing
    refine ⟨_, rfl, l, 20, q, ns, rfl, Sd.fd.feed, by omega, by omega, fun m2 Ge m20 m21 fe ke => ?_⟩
    have Se := Sd.take fe ke
    have f0 := Int.fmod_nonneg_of_pos m2 (show (0 : Int) < 18 by decide)
    have f1 := Int.fmod_lt_of_pos m2 (show (0 : Int) < 18 by decide)
    obtain ⟨n5, hn5⟩ := Int.eq_ofNat_of_zero_le f0
    obtain ⟨pq, bq, sq, cq, elq, _⟩ := Se.fd.feed
    refine .inl ⟨_, rfl, _, _, rfl, rfl, (by show (18 : Int) ≠ 0; decide), _, rfl, n5, _, L, l, _, (by show [V.int (m2.fmod 18), V.ref pg] = _; rw [hn5]), by omega, elq, Se.got, few, fun y d Gf ef hy htd => ?_⟩
    have Sf := Se.same ef
    have hyf := dp_same (del_le Gf l) hy
    refine ⟨_, rfl, y, d, rfl, hyf, htd, fun Gg eg => ⟨_, rfl, y, d, rfl, dp_same eg hyf, htd, ?_⟩⟩
    have Sg := Sf.same eg
    have hyg := dp_same (same_del l eg) hy
    refine ⟨_, _, .bool (isT d), rfl, .bl _, .bl _, rfl, _, rfl, iteF ?_⟩
    have tail : ∀ (Gh : Hp) (Q2 : VK), Held K l q ns H1 pg bh (.ref xd) L wd Gh → (∀ G', Q2 (.bl true) G') → ∀ (Gm : Hp) (z2 : V), Same Gh Gm → Dp K Gm z2 (rwsD (rowsN 1000 (unl (prsOf (prsD L))))) → spSame 4 K [z2, .ref xd] Gm Q2 E0 := fun Gh Q2 Sh k2 Gm z2 em hz2 => by
      rw [prsOf_prsD] at hz2
      exact ⟨z2, _, _, rfl, hz2, (Sh.same em).d, plain_rwsD (by omega) 1, k2 _⟩
    refine ⟨_, rfl, y, d, rfl, dp_same (del_le Gg l) hyg, htd, _, rfl, ?_⟩
    cases hTd : isT d with
    | true =>
      refine iteF ?_
      refine iteF ?_
      refine ⟨_, rfl, l, 14, q, ns, rfl, Sg.fd.feed, by omega, by omega, fun r Gj r0 r1 fj kj => ?_⟩
      obtain ⟨rn, rfl⟩ := Int.eq_ofNat_of_zero_le r0
      have Sj := Sg.take fj kj
      refine ⟨_, rfl, rn, bh, hw wd, rfl, by omega, Sj.h, by rw [hw_len]; omega, fun Gk ek => ⟨_, rfl, ?_⟩⟩
      have Sk := Sj.same ek
      refine iteT ?_
      refine ⟨_, rfl, _, prsD L, rfl, Sk.g, htl, hT, fun z2 Gm em hz2 => ⟨_, rfl, tail Gk _ Sk k Gm z2 em hz2⟩⟩
    | false =>
      refine iteT ?_
      refine ⟨_, rfl, _, rfl, l, 3, q, ns, rfl, Sg.fd.feed, by omega, by omega, fun m3 Gh m30 m31 fh kh => ?_⟩
      obtain ⟨n3, rfl⟩ := Int.eq_ofNat_of_zero_le m30
      have Sh := Sg.take fh kh
      refine ⟨y, d, n3, rfl, dp_same (del_le Gh l) (dp_same kh hyg), htd, hTd, fun Gi ei => ⟨_, rfl, ?_⟩⟩
      have Si := Sh.same ei
      refine iteF ?_
      refine ⟨_, rfl, l, 14, q, ns, rfl, Si.fd.feed, by omega, by omega, fun r Gj r0 r1 fj kj => ?_⟩
      obtain ⟨rn, rfl⟩ := Int.eq_ofNat_of_zero_le r0
      have Sj := Si.take fj kj
      refine ⟨_, rfl, rn, bh, hw wd, rfl, by omega, Sj.h, by rw [hw_len]; omega, fun Gk ek => ⟨_, rfl, ?_⟩⟩
      have Sk := Sj.same ek
      refine iteT ?_
      refine ⟨_, rfl, _, prsD L, rfl, Sk.g, htl, hT, fun z2 Gm em hz2 => ⟨_, rfl, tail Gk _ Sk k Gm z2 em hz2⟩⟩
  · intro nx hnx
    obtain ⟨xd', ds', exd, hxd, hds⟩ := rws_of S19.d
    obtain rfl := V.ref.inj exd
    have lds : ds'.length = (rowsN 1000 (unl L)).length := by rw [dp_len hds, List.length_map]
    refine ⟨_, rfl, (!ds'.isEmpty), .inr (.inl ⟨_, hxd, rfl⟩), ?_⟩
    cases ds' with
    | nil =>
      refine iteF ?_
      exact hnx _ _ ⟨_, _, _, rfl, S19⟩
    | cons d0 dr =>
      refine iteT ?_
      have Rpos : 0 < (rowsN 1000 (unl L)).length := by rw [← lds]; exact Nat.succ_pos _
      generalize d0 :: dr = ds' at hxd hds lds
      -- what goes
      refine ⟨_, rfl, _, rfl, xd, ds', rfl, .inr hxd, l, (ds'.length : Int), q, ns, rfl, S19.fd.feed, by omega, by omega, fun gi Ga g0 g1 fa ka => ?_⟩
      obtain ⟨gn, rfl⟩ := Int.eq_ofNat_of_zero_le g0
      have Sa := S19.take fa ka
      have due_at : ∀ {G : Hp}, Held K l q ns H1 pg bh (.ref xd) L wd G → ∃ zs, SqT K G xd zs ∧ DpAll K G zs ((rowsN 1000 (unl L)).map rwD) ∧ zs.length = (rowsN 1000 (unl L)).length := fun {G} S => by
        obtain ⟨x', zs, ex, h1, h2⟩ := rws_of S.d
        obtain rfl := V.ref.inj ex
        exact ⟨zs, h1, h2, by rw [dp_len h2, List.length_map]⟩
      obtain ⟨za, hza, hdza, lza⟩ := due_at Sa
      refine ⟨_, rfl, _, rfl, _, rfl, xd, za, rfl, hza, fun p1 G1 e1 h1 => ?_⟩
      rw [cut_hi] at h1
      have S1 := Sa.same e1
      refine ⟨_, rfl, _, rfl, _, _, rfl, rfl, _, rfl, xd, za, rfl, seqT_same e1 hza, fun p2 G2 e2 h2 => ?_⟩
      rw [show ((gn : Int) + 1) = ((gn + 1 : Nat) : Int) by omega, cut_lo] at h2
      have S2 := S1.same e2
      refine ⟨p1, p2, _, _, rfl, rfl, seqT_same e2 h1, h2, (by rw [List.length_take, List.length_drop]; exact Nat.le_of_lt (szl (by omega))), fun p3 G3 e3 h3 => ?_⟩
      have S3 := S2.same e3
      have hA : Dp K G3 (.ref p3) (rwsD ((rowsN 1000 (unl L)).take gn ++ (rowsN 1000 (unl L)).drop (gn + 1))) := by
        refine .tup h3 ?_
        rw [List.map_append, List.map_take, List.map_drop]
        have hd3 := dpAll_same ((e1.trans e2).trans e3) hdza
        exact dpAll_cat (dpAll_takes gn hd3) (dpAll_drop (gn + 1) hd3)
      obtain ⟨pq3, bq3, sq3, cq3, elq3, _⟩ := S3.fd.feed
      have hAl := dp_off (d := rwsD _) elq3 (noLs_rws _) hA
      obtain ⟨z3, hz3, _, lz3⟩ := due_at S3
      refine ⟨_, rfl, _, rfl, _, rfl, _, rfl, xd, z3, rfl, .inr hz3, l, (z3.length : Int), q, ns, rfl, S3.fd.feed, by omega, by omega, fun m G4 m0 m1 f4 k4 => ?_⟩
      have S4 := S3.take f4 k4
      refine ⟨l, (wd : Int), m, q, ns, rfl, S4.fd.feed, by omega, by omega, by omega, by omega, fun po R2 G5 f5 hR2 lR2 inR2 => ?_⟩
      have S5 := S4.fd' f5
      have hA5 := dp_same f5.keep (dp_same k4 hAl)
      refine ⟨(by show 2 ≤ sizeLine; decide), fun ll hll => ?_⟩
      have e6 := same_new hll (.lst [.ref p3, .ref po])
      have S6 := S5.same e6
      have ell : (upd G5 ll (.lst [.ref p3, .ref po])) ll = some (.lst [.ref p3, .ref po]) := upd_same
      have hA6 := dp_same (same_del l e6) hA5
      have hB6 := dp_same (same_del l e6) hR2
      generalize upd G5 ll (.lst [.ref p3, .ref po]) = G6 at S6 ell hA6 hB6 ⊢
      refine ⟨ll, rfl, ⟨_, SqL.of ell⟩, ?_⟩
      have lA : ((rowsN 1000 (unl L)).take gn ++ (rowsN 1000 (unl L)).drop (gn + 1)).length < (rowsN 1000 (unl L)).length := by
        rw [List.length_append, List.length_take, List.length_drop]; omega
      have inA : ∀ r ∈ (rowsN 1000 (unl L)).take gn ++ (rowsN 1000 (unl L)).drop (gn + 1), inRw wd r := fun r mr => (List.mem_append.mp mr).elim (fun h => hR r (List.mem_of_mem_take h)) fun h => hR r (List.mem_of_mem_drop h)
      generalize (rowsN 1000 (unl L)).take gn ++ (rowsN 1000 (unl L)).drop (gn + 1) = RA at lA inA hA6
      refine for_list (K := K) (a := ll) (xs := [.ref p3, .ref po]) (fun i σ G => ∃ (o8 o11 : Option V), σ = [some (.ref a), some (.ref l), some (.ref pg), some (.int (wd : Int)), some (.ref bh), some (.ref xd), some (.ref ct), some (.ref tz), o8, some (.ref ta), some (.int (gn : Int)), o11, none, none, none, none, none] ∧
        Held K l q ns H1 pg bh (.ref xd) L wd G ∧ Same G6 G) ?_ ?_ ?_ ?_
      · exact ⟨_, _, rfl, S6, Same.refl _⟩
      · rintro i σ G _ ⟨_, _, _, _, e⟩
        exact SqL.of (e _ _ ell)
      · rintro i z σ G hiz ⟨o8, o11, rfl, S, eG⟩
        obtain ⟨Rj, hRj, lRj, inRj⟩ : ∃ Rj, Dp K G z (rwsD Rj) ∧ Rj.length < (rowsN 1000 (unl L)).length ∧ ∀ r ∈ Rj, inRw wd r := by
          have key := same_del l eG
          match i, hiz with
          | 0, hiz =>
            obtain rfl : V.ref p3 = z := Option.some.inj hiz
            exact ⟨RA, dp_same (del_le G l) (dp_same key hA6), lA, inA⟩
          | 1, hiz =>
            obtain rfl : V.ref po = z := Option.some.inj hiz
            exact ⟨R2, dp_same (del_le G l) (dp_same key hB6), by rw [lR2]; omega, inR2⟩
          | n + 2, hiz => cases hiz
        have mvj : isMvs ((hw wd).length : Int) (rwsD Rj) = true := by rw [hw_len]; exact isMvs_rwsD inRj
        refine ⟨_, rfl, _, rfl, z, rwsD Rj, bh, hw wd, rfl, hRj, by rw [tlen_rwsD]; omega, calm_rwsD _, S.h, mvj, fun n1 Gc ec hn1 => ?_⟩
        have Sc := S.same ec
        refine ⟨_, rfl, _, rfl, _, rfl, z, rwsD Rj, bh, hw wd, rfl, dp_same ec hRj, Sc.h, mvj, fun n2 Gd ed hn2 => ?_⟩
        have Sd := Sc.same ed
        have hn1d := seqT_same ed hn1
        refine ⟨_, _, .tuple ((runL (hw wd) (rwsOf (rwsD Rj))).map .int), rfl, dp_iV hn1d, dp_iV hn2, plain_ints (by rw [runL_len, hw_len]; omega) 2, _, rfl, iteF ?_⟩
        rw [rwsOf_rwsD] at hn1d
        refine ⟨_, rfl, _, rfl, _, rfl, .ref pg, prsD L, bh, n1, hw wd, runL (hw wd) Rj, rfl, Sd.g, hT, Sd.h, hn1d, ?_, _, rfl, ?_⟩
        · rw [prsOf_prsD, runL_len, hw_len]; exact inb
        rw [prsOf_prsD, LL.fewer inRj lRj]
        refine iteF ?_
        exact ⟨_, _, rfl, Sd, (eG.trans ec).trans ed⟩
      · rintro σ G ⟨o8, o11, rfl, S, eG⟩
        exact hnx _ _ ⟨_, _, _, rfl, S⟩
end
end Lk

set_option Elab.async false
set_option linter.all false
set_option maxRecDepth 100000
set_option maxHeartbeats 4000000
namespace Lk
open PySem PySem.Spec PyProof.Rows L2
theorem all_mk {l : PySem.W.OpenLaw} {w : World} {K : PySem.W.Frag} {h : Heap} {mg : Str → Option Value} {fa : Addr} (X : K.In h) (G : h.Ns mainGlobals mg) (hfa : mg "law" = some (.ref fa))
    {C_NeedError : Addr}
    {C_UnitError : Addr}
    {C_NotUsable : Addr}
    {f_NotUsable__init__ : Addr} {oc0 kV0 dc0 pm0 cd0 ct0 : Value} {od0 an0 : Option Addr} {sl0 : Array (Option Value)}
    {f_is_integer : Addr} {oc1 kV1 dc1 pm1 cd1 ct1 : Value} {od1 an1 : Option Addr} {sl1 : Array (Option Value)}
    {f_is_number : Addr} {oc2 kV2 dc2 pm2 cd2 ct2 : Value} {od2 an2 : Option Addr} {sl2 : Array (Option Value)}
    {f_is_transfers : Addr} {oc3 kV3 dc3 pm3 cd3 ct3 : Value} {od3 an3 : Option Addr} {sl3 : Array (Option Value)}
    {f__is_pair : Addr} {oc4 kV4 dc4 pm4 cd4 ct4 : Value} {od4 an4 : Option Addr} {sl4 : Array (Option Value)}
    {f_transfer_rows : Addr} {oc5 kV5 dc5 pm5 cd5 ct5 : Value} {od5 an5 : Option Addr} {sl5 : Array (Option Value)}
    {f__swapped : Addr} {oc6 kV6 dc6 pm6 cd6 ct6 : Value} {od6 an6 : Option Addr} {sl6 : Array (Option Value)}
    {f_unlike_pairs : Addr} {oc7 kV7 dc7 pm7 cd7 ct7 : Value} {od7 an7 : Option Addr} {sl7 : Array (Option Value)}
    {f_closed_rings : Addr} {oc8 kV8 dc8 pm8 cd8 ct8 : Value} {od8 an8 : Option Addr} {sl8 : Array (Option Value)}
    {f__unlike : Addr} {oc9 kV9 dc9 pm9 cd9 ct9 : Value} {od9 an9 : Option Addr} {sl9 : Array (Option Value)}
    {f_moved_by : Addr} {oc10 kV10 dc10 pm10 cd10 ct10 : Value} {od10 an10 : Option Addr} {sl10 : Array (Option Value)}
    {f__is_moving_row : Addr} {oc11 kV11 dc11 pm11 cd11 ct11 : Value} {od11 an11 : Option Addr} {sl11 : Array (Option Value)}
    {f__law_feed : Addr} {oc12 kV12 dc12 pm12 cd12 ct12 : Value} {od12 an12 : Option Addr} {sl12 : Array (Option Value)}
    {f__law_take : Addr} {oc13 kV13 dc13 pm13 cd13 ct13 : Value} {od13 an13 : Option Addr} {sl13 : Array (Option Value)}
    {f__law_same : Addr} {oc14 kV14 dc14 pm14 cd14 ct14 : Value} {od14 an14 : Option Addr} {sl14 : Array (Option Value)}
    {f__law_refusal : Addr} {oc15 kV15 dc15 pm15 cd15 ct15 : Value} {od15 an15 : Option Addr} {sl15 : Array (Option Value)}
    {f__law_by_hand : Addr} {oc16 kV16 dc16 pm16 cd16 ct16 : Value} {od16 an16 : Option Addr} {sl16 : Array (Option Value)}
    {f__law_picked : Addr} {oc17 kV17 dc17 pm17 cd17 ct17 : Value} {od17 an17 : Option Addr} {sl17 : Array (Option Value)}
    {f__law_drawn : Addr} {oc18 kV18 dc18 pm18 cd18 ct18 : Value} {od18 an18 : Option Addr} {sl18 : Array (Option Value)}
    {f__law_rows : Addr} {oc19 kV19 dc19 pm19 cd19 ct19 : Value} {od19 an19 : Option Addr} {sl19 : Array (Option Value)}
    {f__law_counts : Addr} {oc20 kV20 dc20 pm20 cd20 ct20 : Value} {od20 an20 : Option Addr} {sl20 : Array (Option Value)}
    {f__law_run : Addr} {oc21 kV21 dc21 pm21 cd21 ct21 : Value} {od21 an21 : Option Addr} {sl21 : Array (Option Value)}
    {f__law_did : Addr} {oc22 kV22 dc22 pm22 cd22 ct22 : Value} {od22 an22 : Option Addr} {sl22 : Array (Option Value)}
    {f__law_other : Addr} {oc23 kV23 dc23 pm23 cd23 ct23 : Value} {od23 an23 : Option Addr} {sl23 : Array (Option Value)}
    {f__law_reads_as : Addr} {oc24 kV24 dc24 pm24 cd24 ct24 : Value} {od24 an24 : Option Addr} {sl24 : Array (Option Value)}
    {f__law_thing : Addr} {oc25 kV25 dc25 pm25 cd25 ct25 : Value} {od25 an25 : Option Addr} {sl25 : Array (Option Value)}
    {f__law_pairs_refused : Addr} {oc26 kV26 dc26 pm26 cd26 ct26 : Value} {od26 an26 : Option Addr} {sl26 : Array (Option Value)}
    {f__law_rows_refused : Addr} {oc27 kV27 dc27 pm27 cd27 ct27 : Value} {od27 an27 : Option Addr} {sl27 : Array (Option Value)}
    {f_law : Addr} {oc28 kV28 dc28 pm28 cd28 ct28 : Value} {od28 an28 : Option Addr} {sl28 : Array (Option Value)}
    {nm0 q0 : Str} {N0 : Addr} {bs0 bm0 : List Value} {sn0 : List Str} {sub0 : List Value} {ab0 : Bool} {col0 : Option Bool} {dd0 : Option Addr} {m00 m10 m20 m30 m50 : Option Value}
    (aC_NeedError : PySem.W.nsIn K mainGlobals "NeedError" = some (some (.ref C_NeedError)))
    (aC_UnitError : PySem.W.nsIn K mainGlobals "UnitError" = some (some (.ref C_UnitError)))
    (aC_NotUsable : PySem.W.nsIn K mainGlobals "NotUsable" = some (some (.ref C_NotUsable)))
    (a0 : PySem.W.findIn K (.ref C_NotUsable) "__init__" = some (some (.ref f_NotUsable__init__)))
    (t0 : PySem.W.typeIn K (.ref f_NotUsable__init__) = some (.type "function"))
    (l0 : K.lookup f_NotUsable__init__ = some ⟨oc0, od0, .func (PySem.W.fnOf "__init__" "NotUsable.__init__" (defArgs s_NotUsable___init__) (defBody s_NotUsable___init__) (defScope s_NotUsable___init__) .none kV0 dc0 pm0 an0 cd0 ct0), sl0⟩)
    (c0 : PySem.W.codeIn K cd0 "NotUsable.__init__" = true)
    (k0 : PySem.W.keepIn K (.ref f_NotUsable__init__) = true)
    (a1 : PySem.W.nsIn K mainGlobals "is_integer" = some (some (.ref f_is_integer)))
    (l1 : K.lookup f_is_integer = some ⟨oc1, od1, .func (PySem.W.fnOf "is_integer" "is_integer" (defArgs s_is_integer) (defBody s_is_integer) (defScope s_is_integer) .none kV1 dc1 pm1 an1 cd1 ct1), sl1⟩)
    (c1 : PySem.W.codeIn K cd1 "is_integer" = true)
    (k1 : PySem.W.keepIn K (.ref f_is_integer) = true)
    (a2 : PySem.W.nsIn K mainGlobals "is_number" = some (some (.ref f_is_number)))
    (l2 : K.lookup f_is_number = some ⟨oc2, od2, .func (PySem.W.fnOf "is_number" "is_number" (defArgs s_is_number) (defBody s_is_number) (defScope s_is_number) .none kV2 dc2 pm2 an2 cd2 ct2), sl2⟩)
    (c2 : PySem.W.codeIn K cd2 "is_number" = true)
    (k2 : PySem.W.keepIn K (.ref f_is_number) = true)
    (a3 : PySem.W.nsIn K mainGlobals "is_transfers" = some (some (.ref f_is_transfers)))
    (l3 : K.lookup f_is_transfers = some ⟨oc3, od3, .func (PySem.W.fnOf "is_transfers" "is_transfers" (defArgs s_is_transfers) (defBody s_is_transfers) (defScope s_is_transfers) .none kV3 dc3 pm3 an3 cd3 ct3), sl3⟩)
    (c3 : PySem.W.codeIn K cd3 "is_transfers" = true)
    (k3 : PySem.W.keepIn K (.ref f_is_transfers) = true)
    (a4 : PySem.W.nsIn K mainGlobals "_is_pair" = some (some (.ref f__is_pair)))
    (l4 : K.lookup f__is_pair = some ⟨oc4, od4, .func (PySem.W.fnOf "_is_pair" "_is_pair" (defArgs s__is_pair) (defBody s__is_pair) (defScope s__is_pair) .none kV4 dc4 pm4 an4 cd4 ct4), sl4⟩)
    (c4 : PySem.W.codeIn K cd4 "_is_pair" = true)
    (k4 : PySem.W.keepIn K (.ref f__is_pair) = true)
    (a5 : PySem.W.nsIn K mainGlobals "transfer_rows" = some (some (.ref f_transfer_rows)))
    (l5 : K.lookup f_transfer_rows = some ⟨oc5, od5, .func (PySem.W.fnOf "transfer_rows" "transfer_rows" (defArgs s_transfer_rows) (defBody s_transfer_rows) (defScope s_transfer_rows) .none kV5 dc5 pm5 an5 cd5 ct5), sl5⟩)
    (c5 : PySem.W.codeIn K cd5 "transfer_rows" = true)
    (k5 : PySem.W.keepIn K (.ref f_transfer_rows) = true)
    (a6 : PySem.W.nsIn K mainGlobals "_swapped" = some (some (.ref f__swapped)))
    (l6 : K.lookup f__swapped = some ⟨oc6, od6, .func (PySem.W.fnOf "_swapped" "_swapped" (defArgs s__swapped) (defBody s__swapped) (defScope s__swapped) .none kV6 dc6 pm6 an6 cd6 ct6), sl6⟩)
    (c6 : PySem.W.codeIn K cd6 "_swapped" = true)
    (k6 : PySem.W.keepIn K (.ref f__swapped) = true)
    (a7 : PySem.W.nsIn K mainGlobals "unlike_pairs" = some (some (.ref f_unlike_pairs)))
    (l7 : K.lookup f_unlike_pairs = some ⟨oc7, od7, .func (PySem.W.fnOf "unlike_pairs" "unlike_pairs" (defArgs s_unlike_pairs) (defBody s_unlike_pairs) (defScope s_unlike_pairs) .none kV7 dc7 pm7 an7 cd7 ct7), sl7⟩)
    (c7 : PySem.W.codeIn K cd7 "unlike_pairs" = true)
    (k7 : PySem.W.keepIn K (.ref f_unlike_pairs) = true)
    (a8 : PySem.W.nsIn K mainGlobals "closed_rings" = some (some (.ref f_closed_rings)))
    (l8 : K.lookup f_closed_rings = some ⟨oc8, od8, .func (PySem.W.fnOf "closed_rings" "closed_rings" (defArgs s_closed_rings) (defBody s_closed_rings) (defScope s_closed_rings) .none kV8 dc8 pm8 an8 cd8 ct8), sl8⟩)
    (c8 : PySem.W.codeIn K cd8 "closed_rings" = true)
    (k8 : PySem.W.keepIn K (.ref f_closed_rings) = true)
    (a9 : PySem.W.nsIn K mainGlobals "_unlike" = some (some (.ref f__unlike)))
    (l9 : K.lookup f__unlike = some ⟨oc9, od9, .func (PySem.W.fnOf "_unlike" "_unlike" (defArgs s__unlike) (defBody s__unlike) (defScope s__unlike) .none kV9 dc9 pm9 an9 cd9 ct9), sl9⟩)
    (c9 : PySem.W.codeIn K cd9 "_unlike" = true)
    (k9 : PySem.W.keepIn K (.ref f__unlike) = true)
    (a10 : PySem.W.nsIn K mainGlobals "moved_by" = some (some (.ref f_moved_by)))
    (l10 : K.lookup f_moved_by = some ⟨oc10, od10, .func (PySem.W.fnOf "moved_by" "moved_by" (defArgs s_moved_by) (defBody s_moved_by) (defScope s_moved_by) .none kV10 dc10 pm10 an10 cd10 ct10), sl10⟩)
    (c10 : PySem.W.codeIn K cd10 "moved_by" = true)
    (k10 : PySem.W.keepIn K (.ref f_moved_by) = true)
    (a11 : PySem.W.nsIn K mainGlobals "_is_moving_row" = some (some (.ref f__is_moving_row)))
    (l11 : K.lookup f__is_moving_row = some ⟨oc11, od11, .func (PySem.W.fnOf "_is_moving_row" "_is_moving_row" (defArgs s__is_moving_row) (defBody s__is_moving_row) (defScope s__is_moving_row) .none kV11 dc11 pm11 an11 cd11 ct11), sl11⟩)
    (c11 : PySem.W.codeIn K cd11 "_is_moving_row" = true)
    (k11 : PySem.W.keepIn K (.ref f__is_moving_row) = true)
    (a12 : PySem.W.nsIn K mainGlobals "_law_feed" = some (some (.ref f__law_feed)))
    (l12 : K.lookup f__law_feed = some ⟨oc12, od12, .func (PySem.W.fnOf "_law_feed" "_law_feed" (defArgs s__law_feed) (defBody s__law_feed) (defScope s__law_feed) .none kV12 dc12 pm12 an12 cd12 ct12), sl12⟩)
    (c12 : PySem.W.codeIn K cd12 "_law_feed" = true)
    (k12 : PySem.W.keepIn K (.ref f__law_feed) = true)
    (a13 : PySem.W.nsIn K mainGlobals "_law_take" = some (some (.ref f__law_take)))
    (l13 : K.lookup f__law_take = some ⟨oc13, od13, .func (PySem.W.fnOf "_law_take" "_law_take" (defArgs s__law_take) (defBody s__law_take) (defScope s__law_take) .none kV13 dc13 pm13 an13 cd13 ct13), sl13⟩)
    (c13 : PySem.W.codeIn K cd13 "_law_take" = true)
    (k13 : PySem.W.keepIn K (.ref f__law_take) = true)
    (a14 : PySem.W.nsIn K mainGlobals "_law_same" = some (some (.ref f__law_same)))
    (l14 : K.lookup f__law_same = some ⟨oc14, od14, .func (PySem.W.fnOf "_law_same" "_law_same" (defArgs s__law_same) (defBody s__law_same) (defScope s__law_same) .none kV14 dc14 pm14 an14 cd14 ct14), sl14⟩)
    (c14 : PySem.W.codeIn K cd14 "_law_same" = true)
    (k14 : PySem.W.keepIn K (.ref f__law_same) = true)
    (a15 : PySem.W.nsIn K mainGlobals "_law_refusal" = some (some (.ref f__law_refusal)))
    (l15 : K.lookup f__law_refusal = some ⟨oc15, od15, .func (PySem.W.fnOf "_law_refusal" "_law_refusal" (defArgs s__law_refusal) (defBody s__law_refusal) (defScope s__law_refusal) .none kV15 dc15 pm15 an15 cd15 ct15), sl15⟩)
    (c15 : PySem.W.codeIn K cd15 "_law_refusal" = true)
    (k15 : PySem.W.keepIn K (.ref f__law_refusal) = true)
    (a16 : PySem.W.nsIn K mainGlobals "_law_by_hand" = some (some (.ref f__law_by_hand)))
    (l16 : K.lookup f__law_by_hand = some ⟨oc16, od16, .func (PySem.W.fnOf "_law_by_hand" "_law_by_hand" (defArgs s__law_by_hand) (defBody s__law_by_hand) (defScope s__law_by_hand) .none kV16 dc16 pm16 an16 cd16 ct16), sl16⟩)
    (c16 : PySem.W.codeIn K cd16 "_law_by_hand" = true)
    (k16 : PySem.W.keepIn K (.ref f__law_by_hand) = true)
    (a17 : PySem.W.nsIn K mainGlobals "_law_picked" = some (some (.ref f__law_picked)))
    (l17 : K.lookup f__law_picked = some ⟨oc17, od17, .func (PySem.W.fnOf "_law_picked" "_law_picked" (defArgs s__law_picked) (defBody s__law_picked) (defScope s__law_picked) .none kV17 dc17 pm17 an17 cd17 ct17), sl17⟩)
    (c17 : PySem.W.codeIn K cd17 "_law_picked" = true)
    (k17 : PySem.W.keepIn K (.ref f__law_picked) = true)
    (a18 : PySem.W.nsIn K mainGlobals "_law_drawn" = some (some (.ref f__law_drawn)))
    (l18 : K.lookup f__law_drawn = some ⟨oc18, od18, .func (PySem.W.fnOf "_law_drawn" "_law_drawn" (defArgs s__law_drawn) (defBody s__law_drawn) (defScope s__law_drawn) .none kV18 dc18 pm18 an18 cd18 ct18), sl18⟩)
    (c18 : PySem.W.codeIn K cd18 "_law_drawn" = true)
    (k18 : PySem.W.keepIn K (.ref f__law_drawn) = true)
    (a19 : PySem.W.nsIn K mainGlobals "_law_rows" = some (some (.ref f__law_rows)))
    (l19 : K.lookup f__law_rows = some ⟨oc19, od19, .func (PySem.W.fnOf "_law_rows" "_law_rows" (defArgs s__law_rows) (defBody s__law_rows) (defScope s__law_rows) .none kV19 dc19 pm19 an19 cd19 ct19), sl19⟩)
    (c19 : PySem.W.codeIn K cd19 "_law_rows" = true)
    (k19 : PySem.W.keepIn K (.ref f__law_rows) = true)
    (a20 : PySem.W.nsIn K mainGlobals "_law_counts" = some (some (.ref f__law_counts)))
    (l20 : K.lookup f__law_counts = some ⟨oc20, od20, .func (PySem.W.fnOf "_law_counts" "_law_counts" (defArgs s__law_counts) (defBody s__law_counts) (defScope s__law_counts) .none kV20 dc20 pm20 an20 cd20 ct20), sl20⟩)
    (c20 : PySem.W.codeIn K cd20 "_law_counts" = true)
    (k20 : PySem.W.keepIn K (.ref f__law_counts) = true)
    (a21 : PySem.W.nsIn K mainGlobals "_law_run" = some (some (.ref f__law_run)))
    (l21 : K.lookup f__law_run = some ⟨oc21, od21, .func (PySem.W.fnOf "_law_run" "_law_run" (defArgs s__law_run) (defBody s__law_run) (defScope s__law_run) .none kV21 dc21 pm21 an21 cd21 ct21), sl21⟩)
    (c21 : PySem.W.codeIn K cd21 "_law_run" = true)
    (k21 : PySem.W.keepIn K (.ref f__law_run) = true)
    (a22 : PySem.W.nsIn K mainGlobals "_law_did" = some (some (.ref f__law_did)))
    (l22 : K.lookup f__law_did = some ⟨oc22, od22, .func (PySem.W.fnOf "_law_did" "_law_did" (defArgs s__law_did) (defBody s__law_did) (defScope s__law_did) .none kV22 dc22 pm22 an22 cd22 ct22), sl22⟩)
    (c22 : PySem.W.codeIn K cd22 "_law_did" = true)
    (k22 : PySem.W.keepIn K (.ref f__law_did) = true)
    (a23 : PySem.W.nsIn K mainGlobals "_law_other" = some (some (.ref f__law_other)))
    (l23 : K.lookup f__law_other = some ⟨oc23, od23, .func (PySem.W.fnOf "_law_other" "_law_other" (defArgs s__law_other) (defBody s__law_other) (defScope s__law_other) .none kV23 dc23 pm23 an23 cd23 ct23), sl23⟩)
    (c23 : PySem.W.codeIn K cd23 "_law_other" = true)
    (k23 : PySem.W.keepIn K (.ref f__law_other) = true)
    (a24 : PySem.W.nsIn K mainGlobals "_law_reads_as" = some (some (.ref f__law_reads_as)))
    (l24 : K.lookup f__law_reads_as = some ⟨oc24, od24, .func (PySem.W.fnOf "_law_reads_as" "_law_reads_as" (defArgs s__law_reads_as) (defBody s__law_reads_as) (defScope s__law_reads_as) .none kV24 dc24 pm24 an24 cd24 ct24), sl24⟩)
    (c24 : PySem.W.codeIn K cd24 "_law_reads_as" = true)
    (k24 : PySem.W.keepIn K (.ref f__law_reads_as) = true)
    (a25 : PySem.W.nsIn K mainGlobals "_law_thing" = some (some (.ref f__law_thing)))
    (l25 : K.lookup f__law_thing = some ⟨oc25, od25, .func (PySem.W.fnOf "_law_thing" "_law_thing" (defArgs s__law_thing) (defBody s__law_thing) (defScope s__law_thing) .none kV25 dc25 pm25 an25 cd25 ct25), sl25⟩)
    (c25 : PySem.W.codeIn K cd25 "_law_thing" = true)
    (k25 : PySem.W.keepIn K (.ref f__law_thing) = true)
    (a26 : PySem.W.nsIn K mainGlobals "_law_pairs_refused" = some (some (.ref f__law_pairs_refused)))
    (l26 : K.lookup f__law_pairs_refused = some ⟨oc26, od26, .func (PySem.W.fnOf "_law_pairs_refused" "_law_pairs_refused" (defArgs s__law_pairs_refused) (defBody s__law_pairs_refused) (defScope s__law_pairs_refused) .none kV26 dc26 pm26 an26 cd26 ct26), sl26⟩)
    (c26 : PySem.W.codeIn K cd26 "_law_pairs_refused" = true)
    (k26 : PySem.W.keepIn K (.ref f__law_pairs_refused) = true)
    (a27 : PySem.W.nsIn K mainGlobals "_law_rows_refused" = some (some (.ref f__law_rows_refused)))
    (l27 : K.lookup f__law_rows_refused = some ⟨oc27, od27, .func (PySem.W.fnOf "_law_rows_refused" "_law_rows_refused" (defArgs s__law_rows_refused) (defBody s__law_rows_refused) (defScope s__law_rows_refused) .none kV27 dc27 pm27 an27 cd27 ct27), sl27⟩)
    (c27 : PySem.W.codeIn K cd27 "_law_rows_refused" = true)
    (k27 : PySem.W.keepIn K (.ref f__law_rows_refused) = true)
    (a28 : PySem.W.nsIn K mainGlobals "law" = some (some (.ref f_law)))
    (l28 : K.lookup f_law = some ⟨oc28, od28, .func (PySem.W.fnOf "law" "law" (defArgs s_law) (defBody s_law) (defScope s_law) .none kV28 dc28 pm28 an28 cd28 ct28), sl28⟩)
    (c28 : PySem.W.codeIn K cd28 "law" = true)
    (k28 : PySem.W.keepIn K (.ref f_law) = true)
    (xL0 : K.lookup C_NotUsable = some (excClassObj nm0 q0 C_NotUsable N0 bs0 bm0 true sn0 sub0 ab0 col0 dd0 m00 m10 m20 m30 m50 "ValueError.__new__"))
    (xR0 : PySem.HandSPX.refsVE bm0 = true)
    (sa0 : PySem.W.findIn K (.ref C_NotUsable) "__setattr__" = some (some (.builtin "object.__setattr__")))
    (ga0 : PySem.W.findIn K (.ref C_NotUsable) "__getattribute__" = some (some (.builtin "BaseException.__getattribute__")))
    (gg0 : PySem.W.findIn K (.ref C_NotUsable) "__getattr__" = some none)
    (n0_word : PySem.W.findIn K (.ref C_NotUsable) "word" = some none)
    (n0_at : PySem.W.findIn K (.ref C_NotUsable) "at" = some none)
    (eC0 : PySem.W.subIn K (.ref C_NotUsable) (.type "BaseException") = some true)
    (tC0 : PySem.W.typeIn K (.ref C_NotUsable) = some (.type "type"))
    (kC0 : PySem.W.keepIn K (.ref C_NotUsable) = true)
    (hC0 : PySem.W.hasDictIn K C_NotUsable = true)
    (cl0 : PySem.W.findIn K (.ref C_NotUsable) "__class__" = some (some (.builtin "object.__class__")))
    (mo0 : PySem.W.mroIn K C_NotUsable (.type "object") = some true)
    (q3_NotUsable_NeedError : PySem.W.subIn K (.ref C_NotUsable) (.ref C_NeedError) = some true)
    (q3_NotUsable_NotUsable : PySem.W.subIn K (.ref C_NotUsable) (.ref C_NotUsable) = some true)
    (q3_NotUsable_UnitError : PySem.W.subIn K (.ref C_NotUsable) (.ref C_UnitError) = some true)
    (q1_NeedError : PySem.W.typeIn K (.ref C_NeedError) = some (.type "type"))
    (q2_NeedError : PySem.W.hasDictIn K C_NeedError = true)
    (q5_NeedError : PySem.W.subIn K (.ref C_NeedError) (.type "BaseException") = some true)
    (q1_NotUsable : PySem.W.typeIn K (.ref C_NotUsable) = some (.type "type"))
    (q2_NotUsable : PySem.W.hasDictIn K C_NotUsable = true)
    (q1_UnitError : PySem.W.typeIn K (.ref C_UnitError) = some (.type "type"))
    (q2_UnitError : PySem.W.hasDictIn K C_UnitError = true)
    (sn' : PySem.W.specialIn K (.builtin "object.__class__") "__get__" = some (some (.builtin "getset_descriptor.__get__")))
    (tk : PySem.W.takesIn K (.builtin "object.__class__") = some true)
    (z_isinstance : PySem.W.nsIn K mainGlobals "isinstance" = some none)
    (z_int : PySem.W.nsIn K mainGlobals "int" = some none)
    (z_bool : PySem.W.nsIn K mainGlobals "bool" = some none)
    (z_all : PySem.W.nsIn K mainGlobals "all" = some none)
    (z_tuple : PySem.W.nsIn K mainGlobals "tuple" = some none)
    (z_zip : PySem.W.nsIn K mainGlobals "zip" = some none)
    (z_len : PySem.W.nsIn K mainGlobals "len" = some none)
    (z_list : PySem.W.nsIn K mainGlobals "list" = some none)
    (z_min : PySem.W.nsIn K mainGlobals "min" = some none)
    (z_range : PySem.W.nsIn K mainGlobals "range" = some none)
    (z_str : PySem.W.nsIn K mainGlobals "str" = some none)
    (z_sorted : PySem.W.nsIn K mainGlobals "sorted" = some none)
    (z_max : PySem.W.nsIn K mainGlobals "max" = some none)
    : ∃ fd : FuncData, (∀ (s : Shared) (v : Value), BindsTo s fd ⟨[v], []⟩ [("_law_script", v)]) ∧ ∀ base : Heap, K.In base → base.Ns mainGlobals mg → FnOk l.prog w K mg base CX0 8 fa fd ["_law_script"] (spLaw K) := by
  have e := hfa.symm.trans (PySem.W.mg_of X G a28)
  cases e
  have F0 := fun_mk (st := s_NotUsable___init__) l0 c0 k0
  have b0 := F0.binds (ps := ["self", "word", "at"]) fun _ _ _ _ _ _ us hl => match us, hl with | [_, _, _], _ => rfl
  have F1 := fun_mk (st := s_is_integer) l1 c1 k1
  have b1 := F1.binds (ps := ["thing"]) fun _ _ _ _ _ _ us hl => match us, hl with | [_], _ => rfl
  have F2 := fun_mk (st := s_is_number) l2 c2 k2
  have b2 := F2.binds (ps := ["thing"]) fun _ _ _ _ _ _ us hl => match us, hl with | [_], _ => rfl
  have F3 := fun_mk (st := s_is_transfers) l3 c3 k3
  have b3 := F3.binds (ps := ["thing"]) fun _ _ _ _ _ _ us hl => match us, hl with | [_], _ => rfl
  have Ww_is_transfers_thing : KBinds K _ ["thing"] ["thing"] (fun us ws => match us, ws with | [], [a] => [a] | _, _ => []) (fun vs zs => match vs, zs with | [], [a] => [a] | _, _ => []) := fun_binds F3
    (fun _ _ _ _ _ _ us ws hl => match us, ws, hl with | [], [_], _ => rfl | [], [], h => nomatch h | [], _ :: _ :: _, h => nomatch h | _ :: _, _, h => nomatch h)
    (fun r1 r2 => match r1, r2 with | .nil, .cons a .nil => .cons a .nil | .nil, .nil => .nil | .nil, .cons _ (.cons _ _) => .nil | .cons _ _, _ => .nil)
  have F4 := fun_mk (st := s__is_pair) l4 c4 k4
  have b4 := F4.binds (ps := ["thing"]) fun _ _ _ _ _ _ us hl => match us, hl with | [_], _ => rfl
  have F5 := fun_mk (st := s_transfer_rows) l5 c5 k5
  have b5 := F5.binds (ps := ["pairs"]) fun _ _ _ _ _ _ us hl => match us, hl with | [_], _ => rfl
  have Ww_transfer_rows_pairs : KBinds K _ ["pairs"] ["pairs"] (fun us ws => match us, ws with | [], [a] => [a] | _, _ => []) (fun vs zs => match vs, zs with | [], [a] => [a] | _, _ => []) := fun_binds F5
    (fun _ _ _ _ _ _ us ws hl => match us, ws, hl with | [], [_], _ => rfl | [], [], h => nomatch h | [], _ :: _ :: _, h => nomatch h | _ :: _, _, h => nomatch h)
    (fun r1 r2 => match r1, r2 with | .nil, .cons a .nil => .cons a .nil | .nil, .nil => .nil | .nil, .cons _ (.cons _ _) => .nil | .cons _ _, _ => .nil)
  have F6 := fun_mk (st := s__swapped) l6 c6 k6
  have b6 := F6.binds (ps := ["pending"]) fun _ _ _ _ _ _ us hl => match us, hl with | [_], _ => rfl
  have F7 := fun_mk (st := s_unlike_pairs) l7 c7 k7
  have b7 := F7.binds (ps := ["pairs"]) fun _ _ _ _ _ _ us hl => match us, hl with | [_], _ => rfl
  have Ww_unlike_pairs_pairs : KBinds K _ ["pairs"] ["pairs"] (fun us ws => match us, ws with | [], [a] => [a] | _, _ => []) (fun vs zs => match vs, zs with | [], [a] => [a] | _, _ => []) := fun_binds F7
    (fun _ _ _ _ _ _ us ws hl => match us, ws, hl with | [], [_], _ => rfl | [], [], h => nomatch h | [], _ :: _ :: _, h => nomatch h | _ :: _, _, h => nomatch h)
    (fun r1 r2 => match r1, r2 with | .nil, .cons a .nil => .cons a .nil | .nil, .nil => .nil | .nil, .cons _ (.cons _ _) => .nil | .cons _ _, _ => .nil)
  have F8 := fun_mk (st := s_closed_rings) l8 c8 k8
  have b8 := F8.binds (ps := ["pairs"]) fun _ _ _ _ _ _ us hl => match us, hl with | [_], _ => rfl
  have Ww_closed_rings_pairs : KBinds K _ ["pairs"] ["pairs"] (fun us ws => match us, ws with | [], [a] => [a] | _, _ => []) (fun vs zs => match vs, zs with | [], [a] => [a] | _, _ => []) := fun_binds F8
    (fun _ _ _ _ _ _ us ws hl => match us, ws, hl with | [], [_], _ => rfl | [], [], h => nomatch h | [], _ :: _ :: _, h => nomatch h | _ :: _, _, h => nomatch h)
    (fun r1 r2 => match r1, r2 with | .nil, .cons a .nil => .cons a .nil | .nil, .nil => .nil | .nil, .cons _ (.cons _ _) => .nil | .cons _ _, _ => .nil)
  have F9 := fun_mk (st := s__unlike) l9 c9 k9
  have b9 := F9.binds (ps := ["pairs"]) fun _ _ _ _ _ _ us hl => match us, hl with | [_], _ => rfl
  have F10 := fun_mk (st := s_moved_by) l10 c10 k10
  have b10 := F10.binds (ps := ["rows", "words"]) fun _ _ _ _ _ _ us hl => match us, hl with | [_, _], _ => rfl
  have Ww_moved_by_rows_words : KBinds K _ ["rows", "words"] ["rows", "words"] (fun us ws => match us, ws with | [], [a, b] => [a, b] | _, _ => []) (fun vs zs => match vs, zs with | [], [a, b] => [a, b] | _, _ => []) := fun_binds F10
    (fun _ _ _ _ _ _ us ws hl => match us, ws, hl with | [], [_, _], _ => rfl | [], [], h => nomatch h | [], [_], h => nomatch h | [], _ :: _ :: _ :: _, h => nomatch h | _ :: _, _, h => nomatch h)
    (fun r1 r2 => match r1, r2 with | .nil, .cons a (.cons b .nil) => .cons a (.cons b .nil) | .nil, .nil => .nil | .nil, .cons _ .nil => .nil | .nil, .cons _ (.cons _ (.cons _ _)) => .nil | .cons _ _, _ => .nil)
  have F11 := fun_mk (st := s__is_moving_row) l11 c11 k11
  have b11 := F11.binds (ps := ["thing", "many"]) fun _ _ _ _ _ _ us hl => match us, hl with | [_, _], _ => rfl
  have F12 := fun_mk (st := s__law_feed) l12 c12 k12
  have b12 := F12.binds (ps := ["_law_script"]) fun _ _ _ _ _ _ us hl => match us, hl with | [_], _ => rfl
  have F13 := fun_mk (st := s__law_take) l13 c13 k13
  have b13 := F13.binds (ps := ["_law_feed_here", "_law_many"]) fun _ _ _ _ _ _ us hl => match us, hl with | [_, _], _ => rfl
  have F14 := fun_mk (st := s__law_same) l14 c14 k14
  have b14 := F14.binds (ps := ["_law_got", "_law_due"]) fun _ _ _ _ _ _ us hl => match us, hl with | [_, _], _ => rfl
  have F15 := fun_mk (st := s__law_refusal) l15 c15 k15
  have b15 := F15.binds (ps := ["_law_e", "_law_name"]) fun _ _ _ _ _ _ us hl => match us, hl with | [_, _], _ => rfl
  have F16 := fun_mk (st := s__law_by_hand) l16 c16 k16
  have b16 := F16.binds (ps := ["_law_number"]) fun _ _ _ _ _ _ us hl => match us, hl with | [_], _ => rfl
  have F17 := fun_mk (st := s__law_picked) l17 c17 k17
  have b17 := F17.binds (ps := ["_law_feed_here", "_law_pool", "_law_many"]) fun _ _ _ _ _ _ us hl => match us, hl with | [_, _, _], _ => rfl
  have F18 := fun_mk (st := s__law_drawn) l18 c18 k18
  have b18 := F18.binds (ps := ["_law_feed_here"]) fun _ _ _ _ _ _ us hl => match us, hl with | [_], _ => rfl
  have F19 := fun_mk (st := s__law_rows) l19 c19 k19
  have b19 := F19.binds (ps := ["_law_got"]) fun _ _ _ _ _ _ us hl => match us, hl with | [_], _ => rfl
  have F20 := fun_mk (st := s__law_counts) l20 c20 k20
  have b20 := F20.binds (ps := ["_law_got"]) fun _ _ _ _ _ _ us hl => match us, hl with | [_], _ => rfl
  have F21 := fun_mk (st := s__law_run) l21 c21 k21
  have b21 := F21.binds (ps := ["_law_made", "_law_held"]) fun _ _ _ _ _ _ us hl => match us, hl with | [_, _], _ => rfl
  have F22 := fun_mk (st := s__law_did) l22 c22 k22
  have b22 := F22.binds (ps := ["_law_got", "_law_held", "_law_now"]) fun _ _ _ _ _ _ us hl => match us, hl with | [_, _, _], _ => rfl
  have F23 := fun_mk (st := s__law_other) l23 c23 k23
  have b23 := F23.binds (ps := ["_law_feed_here", "_law_wide", "_law_many"]) fun _ _ _ _ _ _ us hl => match us, hl with | [_, _, _], _ => rfl
  have F24 := fun_mk (st := s__law_reads_as) l24 c24 k24
  have b24 := F24.binds (ps := ["_law_x"]) fun _ _ _ _ _ _ us hl => match us, hl with | [_], _ => rfl
  have F25 := fun_mk (st := s__law_thing) l25 c25 k25
  have b25 := F25.binds (ps := ["_law_number", "_law_got"]) fun _ _ _ _ _ _ us hl => match us, hl with | [_, _], _ => rfl
  have F26 := fun_mk (st := s__law_pairs_refused) l26 c26 k26
  have b26 := F26.binds (ps := ["_law_x", "_law_way"]) fun _ _ _ _ _ _ us hl => match us, hl with | [_, _], _ => rfl
  have F27 := fun_mk (st := s__law_rows_refused) l27 c27 k27
  have b27 := F27.binds (ps := ["_law_number", "_law_held"]) fun _ _ _ _ _ _ us hl => match us, hl with | [_, _], _ => rfl
  have F28 := fun_mk (st := s_law) l28 c28 k28
  have b28 := F28.binds (ps := ["_law_script"]) fun _ _ _ _ _ _ us hl => match us, hl with | [_], _ => rfl
  let T : Txt K mg := {
    C_NeedError := C_NeedError, mC_NeedError := PySem.W.mg_of X G aC_NeedError,
    C_UnitError := C_UnitError, mC_UnitError := PySem.W.mg_of X G aC_UnitError,
    C_NotUsable := C_NotUsable, mC_NotUsable := PySem.W.mg_of X G aC_NotUsable,
    x_NotUsable := ⟨⟨nm0, q0, N0, bs0, bm0, sn0, sub0, ab0, col0, dd0, m00, m10, m20, m30, m50, xL0, xR0⟩, sa0, eC0, tC0, kC0⟩, xk_NotUsable := ⟨cls_some hC0, ga0, gg0, eC0, cl0, sn', tk, mo0⟩, xf_NotUsable := ⟨ga0, gg0, eC0, hC0⟩, i_NotUsable := a0, t_NotUsable := t0,
    n_NotUsable_word := n0_word,
    n_NotUsable_at := n0_at,
    ex_NotUsable_NeedError := PySem.W.exm_ref q5_NeedError q2_NeedError q1_NeedError q3_NotUsable_NeedError,
    is_NotUsable_NotUsable := kit_self,
    is_NotUsable_UnitError := kit_own (cls_some q2_UnitError) q1_UnitError q3_NotUsable_UnitError (fun z => nomatch z),
    f_NotUsable__init__ := _, d_NotUsable__init__ := _, F_NotUsable__init__ := F0, b_NotUsable__init__ := b0,
    f_is_integer := _, d_is_integer := _, F_is_integer := F1, b_is_integer := b1, m_is_integer := PySem.W.mg_of X G a1, k_is_integer := k1,
    f_is_number := _, d_is_number := _, F_is_number := F2, b_is_number := b2, m_is_number := PySem.W.mg_of X G a2, k_is_number := k2,
    f_is_transfers := _, d_is_transfers := _, F_is_transfers := F3, b_is_transfers := b3, m_is_transfers := PySem.W.mg_of X G a3, k_is_transfers := k3, w_is_transfers_thing := Ww_is_transfers_thing,
    f__is_pair := _, d__is_pair := _, F__is_pair := F4, b__is_pair := b4, m__is_pair := PySem.W.mg_of X G a4, k__is_pair := k4,
    f_transfer_rows := _, d_transfer_rows := _, F_transfer_rows := F5, b_transfer_rows := b5, m_transfer_rows := PySem.W.mg_of X G a5, k_transfer_rows := k5, w_transfer_rows_pairs := Ww_transfer_rows_pairs,
    f__swapped := _, d__swapped := _, F__swapped := F6, b__swapped := b6, m__swapped := PySem.W.mg_of X G a6, k__swapped := k6,
    f_unlike_pairs := _, d_unlike_pairs := _, F_unlike_pairs := F7, b_unlike_pairs := b7, m_unlike_pairs := PySem.W.mg_of X G a7, k_unlike_pairs := k7, w_unlike_pairs_pairs := Ww_unlike_pairs_pairs,
    f_closed_rings := _, d_closed_rings := _, F_closed_rings := F8, b_closed_rings := b8, m_closed_rings := PySem.W.mg_of X G a8, k_closed_rings := k8, w_closed_rings_pairs := Ww_closed_rings_pairs,
    f__unlike := _, d__unlike := _, F__unlike := F9, b__unlike := b9, m__unlike := PySem.W.mg_of X G a9, k__unlike := k9,
    f_moved_by := _, d_moved_by := _, F_moved_by := F10, b_moved_by := b10, m_moved_by := PySem.W.mg_of X G a10, k_moved_by := k10, w_moved_by_rows_words := Ww_moved_by_rows_words,
    f__is_moving_row := _, d__is_moving_row := _, F__is_moving_row := F11, b__is_moving_row := b11, m__is_moving_row := PySem.W.mg_of X G a11, k__is_moving_row := k11,
    f__law_feed := _, d__law_feed := _, F__law_feed := F12, b__law_feed := b12, m__law_feed := PySem.W.mg_of X G a12, k__law_feed := k12,
    f__law_take := _, d__law_take := _, F__law_take := F13, b__law_take := b13, m__law_take := PySem.W.mg_of X G a13, k__law_take := k13,
    f__law_same := _, d__law_same := _, F__law_same := F14, b__law_same := b14, m__law_same := PySem.W.mg_of X G a14, k__law_same := k14,
    f__law_refusal := _, d__law_refusal := _, F__law_refusal := F15, b__law_refusal := b15, m__law_refusal := PySem.W.mg_of X G a15, k__law_refusal := k15,
    f__law_by_hand := _, d__law_by_hand := _, F__law_by_hand := F16, b__law_by_hand := b16, m__law_by_hand := PySem.W.mg_of X G a16, k__law_by_hand := k16,
    f__law_picked := _, d__law_picked := _, F__law_picked := F17, b__law_picked := b17, m__law_picked := PySem.W.mg_of X G a17, k__law_picked := k17,
    f__law_drawn := _, d__law_drawn := _, F__law_drawn := F18, b__law_drawn := b18, m__law_drawn := PySem.W.mg_of X G a18, k__law_drawn := k18,
    f__law_rows := _, d__law_rows := _, F__law_rows := F19, b__law_rows := b19, m__law_rows := PySem.W.mg_of X G a19, k__law_rows := k19,
    f__law_counts := _, d__law_counts := _, F__law_counts := F20, b__law_counts := b20, m__law_counts := PySem.W.mg_of X G a20, k__law_counts := k20,
    f__law_run := _, d__law_run := _, F__law_run := F21, b__law_run := b21, m__law_run := PySem.W.mg_of X G a21, k__law_run := k21,
    f__law_did := _, d__law_did := _, F__law_did := F22, b__law_did := b22, m__law_did := PySem.W.mg_of X G a22, k__law_did := k22,
    f__law_other := _, d__law_other := _, F__law_other := F23, b__law_other := b23, m__law_other := PySem.W.mg_of X G a23, k__law_other := k23,
    f__law_reads_as := _, d__law_reads_as := _, F__law_reads_as := F24, b__law_reads_as := b24, m__law_reads_as := PySem.W.mg_of X G a24, k__law_reads_as := k24,
    f__law_thing := _, d__law_thing := _, F__law_thing := F25, b__law_thing := b25, m__law_thing := PySem.W.mg_of X G a25, k__law_thing := k25,
    f__law_pairs_refused := _, d__law_pairs_refused := _, F__law_pairs_refused := F26, b__law_pairs_refused := b26, m__law_pairs_refused := PySem.W.mg_of X G a26, k__law_pairs_refused := k26,
    f__law_rows_refused := _, d__law_rows_refused := _, F__law_rows_refused := F27, b__law_rows_refused := b27, m__law_rows_refused := PySem.W.mg_of X G a27, k__law_rows_refused := k27,
    f_law := _, d_law := _, F_law := F28, b_law := b28, m_law := PySem.W.mg_of X G a28, k_law := k28,
    z_isinstance := PySem.W.mg_none_of X G z_isinstance, z_int := PySem.W.mg_none_of X G z_int, z_bool := PySem.W.mg_none_of X G z_bool, z_all := PySem.W.mg_none_of X G z_all, z_tuple := PySem.W.mg_none_of X G z_tuple, z_zip := PySem.W.mg_none_of X G z_zip, z_len := PySem.W.mg_none_of X G z_len, z_list := PySem.W.mg_none_of X G z_list, z_min := PySem.W.mg_none_of X G z_min, z_range := PySem.W.mg_none_of X G z_range, z_str := PySem.W.mg_none_of X G z_str, z_sorted := PySem.W.mg_none_of X G z_sorted, z_max := PySem.W.mg_none_of X G z_max }
  exact ⟨_, fun s v => .of_eq rfl, fun base _ _ => ok_law T⟩
theorem walk {l : PySem.W.OpenLaw} {q : Program} {loose : List Str} {XP : (Str → Option Value) → Heap → Prop} {YP : World → Heap → Prop} {d : DefRec} {K : Params → PySem.W.Frag} (hn : l.most = some 63) (hdf : d.params.defaults = [])
    (hY : ∀ (w : World) (h : Heap), YP w h → (K w.params).In h)
    (F : ∀ (w : World) (mg : Str → Option Value) (fa : Addr) (h : Heap), (K w.params).In h → h.Ns mainGlobals mg → mg d.name = some (.ref fa) →
      ∃ fd : FuncData, (∀ (s : Shared) (u : Value), BindsTo s fd ⟨[u], []⟩ [("_law_script", u)]) ∧ ∀ base : Heap, (K w.params).In base → base.Ns mainGlobals mg → FnOk l.prog w (K w.params) mg base CX0 8 fa fd ["_law_script"] (spLaw (K w.params))) :
    PySem.W.WalkO q loose XP YP l.row.toRowW d [] (fun f vs => PySem.call f vs) :=
  L2.walk_of (n := 63) (k := 8) (x := "_law_script") (CX := fun _ => CX0) (sp := fun w => spLaw (K w.params)) hn (by decide) hdf ⟨rfl, by decide, by decide⟩ hY F (fun _ _ a ns hl _ hS => ⟨a, ns, rfl, hS, hl, fun _ => rfl⟩) fun _ _ _ _ _ z => z
end Lk
open PySem PySem.W PyProof.Rows
set_option maxRecDepth 100000 in
set_option maxHeartbeats 0 in
theorem PySem.Challenge.cw_linkneed_k28_whole_transfers_and_fewest_holds : PySem.Challenge.rw_linkneed_k28_whole_transfers_and_fewest.Holds := by
  w_on; o_law; k_head; (case hw => w_witness2)
  k_fill
  refine Lk.walk (l := PySem.Challenge.rw_linkneed_k28_whole_transfers_and_fewest) rfl rfl (fun w h Y => PySem.W.kIn_of Y) ?F
  case F =>
    intro w mg fa h KX G hmg
    refine' Lk.all_mk KX G hmg ?aC_NeedError ?aC_UnitError ?aC_NotUsable ?a0 ?t0 ?l0 ?c0 ?k0 ?a1 ?l1 ?c1 ?k1 ?a2 ?l2 ?c2 ?k2 ?a3 ?l3 ?c3 ?k3 ?a4 ?l4 ?c4 ?k4 ?a5 ?l5 ?c5 ?k5 ?a6 ?l6 ?c6 ?k6 ?a7 ?l7 ?c7 ?k7 ?a8 ?l8 ?c8 ?k8 ?a9 ?l9 ?c9 ?k9 ?a10 ?l10 ?c10 ?k10 ?a11 ?l11 ?c11 ?k11 ?a12 ?l12 ?c12 ?k12 ?a13 ?l13 ?c13 ?k13 ?a14 ?l14 ?c14 ?k14 ?a15 ?l15 ?c15 ?k15 ?a16 ?l16 ?c16 ?k16 ?a17 ?l17 ?c17 ?k17 ?a18 ?l18 ?c18 ?k18 ?a19 ?l19 ?c19 ?k19 ?a20 ?l20 ?c20 ?k20 ?a21 ?l21 ?c21 ?k21 ?a22 ?l22 ?c22 ?k22 ?a23 ?l23 ?c23 ?k23 ?a24 ?l24 ?c24 ?k24 ?a25 ?l25 ?c25 ?k25 ?a26 ?l26 ?c26 ?k26 ?a27 ?l27 ?c27 ?k27 ?a28 ?l28 ?c28 ?k28 ?xL0 ?xR0 ?sa0 ?ga0 ?gg0 ?n0_word ?n0_at ?eC0 ?tC0 ?kC0 ?hC0 ?cl0 ?mo0 ?q3_NotUsable_NeedError ?q3_NotUsable_NotUsable ?q3_NotUsable_UnitError ?q1_NeedError ?q2_NeedError ?q5_NeedError ?q1_NotUsable ?q2_NotUsable ?q1_UnitError ?q2_UnitError ?sn' ?tk ?z_isinstance ?z_int ?z_bool ?z_all ?z_tuple ?z_zip ?z_len ?z_list ?z_min ?z_range ?z_str ?z_sorted ?z_max
    (case aC_NeedError => k_is)
    (case aC_UnitError => k_is)
    (case aC_NotUsable => k_is)
    (case a0 => k_is)
    (case t0 => k_is)
    (case l0 => k_is)
    (case c0 => k_is)
    (case k0 => k_is)
    (case a1 => k_is)
    (case l1 => k_is)
    (case c1 => k_is)
    (case k1 => k_is)
    (case a2 => k_is)
    (case l2 => k_is)
    (case c2 => k_is)
    (case k2 => k_is)
    (case a3 => k_is)
    (case l3 => k_is)
    (case c3 => k_is)
    (case k3 => k_is)
    (case a4 => k_is)
    (case l4 => k_is)
    (case c4 => k_is)
    (case k4 => k_is)
    (case a5 => k_is)
    (case l5 => k_is)
    (case c5 => k_is)
    (case k5 => k_is)
    (case a6 => k_is)
    (case l6 => k_is)
    (case c6 => k_is)
    (case k6 => k_is)
    (case a7 => k_is)
    (case l7 => k_is)
    (case c7 => k_is)
    (case k7 => k_is)
    (case a8 => k_is)
    (case l8 => k_is)
    (case c8 => k_is)
    (case k8 => k_is)
    (case a9 => k_is)
    (case l9 => k_is)
    (case c9 => k_is)
    (case k9 => k_is)
    (case a10 => k_is)
    (case l10 => k_is)
    (case c10 => k_is)
    (case k10 => k_is)
    (case a11 => k_is)
    (case l11 => k_is)
    (case c11 => k_is)
    (case k11 => k_is)
    (case a12 => k_is)
    (case l12 => k_is)
    (case c12 => k_is)
    (case k12 => k_is)
    (case a13 => k_is)
    (case l13 => k_is)
    (case c13 => k_is)
    (case k13 => k_is)
    (case a14 => k_is)
    (case l14 => k_is)
    (case c14 => k_is)
    (case k14 => k_is)
    (case a15 => k_is)
    (case l15 => k_is)
    (case c15 => k_is)
    (case k15 => k_is)
    (case a16 => k_is)
    (case l16 => k_is)
    (case c16 => k_is)
    (case k16 => k_is)
    (case a17 => k_is)
    (case l17 => k_is)
    (case c17 => k_is)
    (case k17 => k_is)
    (case a18 => k_is)
    (case l18 => k_is)
    (case c18 => k_is)
    (case k18 => k_is)
    (case a19 => k_is)
    (case l19 => k_is)
    (case c19 => k_is)
    (case k19 => k_is)
    (case a20 => k_is)
    (case l20 => k_is)
    (case c20 => k_is)
    (case k20 => k_is)
    (case a21 => k_is)
    (case l21 => k_is)
    (case c21 => k_is)
    (case k21 => k_is)
    (case a22 => k_is)
    (case l22 => k_is)
    (case c22 => k_is)
    (case k22 => k_is)
    (case a23 => k_is)
    (case l23 => k_is)
    (case c23 => k_is)
    (case k23 => k_is)
    (case a24 => k_is)
    (case l24 => k_is)
    (case c24 => k_is)
    (case k24 => k_is)
    (case a25 => k_is)
    (case l25 => k_is)
    (case c25 => k_is)
    (case k25 => k_is)
    (case a26 => k_is)
    (case l26 => k_is)
    (case c26 => k_is)
    (case k26 => k_is)
    (case a27 => k_is)
    (case l27 => k_is)
    (case c27 => k_is)
    (case k27 => k_is)
    (case a28 => k_is)
    (case l28 => k_is)
    (case c28 => k_is)
    (case k28 => k_is)
    (case xL0 => k_is)
    (case xR0 => decide +kernel)
    (case sa0 => k_is)
    (case ga0 => k_is)
    (case gg0 => k_is)
    (case n0_word => k_is)
    (case n0_at => k_is)
    (case eC0 => k_is)
    (case tC0 => k_is)
    (case kC0 => k_is)
    (case hC0 => k_is)
    (case cl0 => k_is)
    (case mo0 => k_is)
    (case q3_NotUsable_NeedError => k_is)
    (case q3_NotUsable_NotUsable => k_is)
    (case q3_NotUsable_UnitError => k_is)
    (case q1_NeedError => k_is)
    (case q2_NeedError => k_is)
    (case q5_NeedError => k_is)
    (case q1_NotUsable => k_is)
    (case q2_NotUsable => k_is)
    (case q1_UnitError => k_is)
    (case q2_UnitError => k_is)
    (case sn' => rfl)
    (case tk => k_is)
    (case z_isinstance => k_is)
    (case z_int => k_is)
    (case z_bool => k_is)
    (case z_all => k_is)
    (case z_tuple => k_is)
    (case z_zip => k_is)
    (case z_len => k_is)
    (case z_list => k_is)
    (case z_min => k_is)
    (case z_range => k_is)
    (case z_str => k_is)
    (case z_sorted => k_is)
    (case z_max => k_is)

