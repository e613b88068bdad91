import PyProof.Rows.All
import Wide.All
import OpenK.AllK
import Wide.FinOn
import HandS.ForMost
import HandS.ForExc
import HandS.IsInst
import HandS.Deep
import HandS.ExcInit
import HandS.ExcField
import HandS.ExcOwn
import KE.KExcIs
import HandS.ExcIs
import HandS.Lambda
import HandS.TupAny
import HandS.TupMul
import HandS.Walk
import HandS.Zip
import HandS.Style
import HandS.Iter
import HandS.Conv
import HandS.DictComp
import HandS.TupSets
import HandS.SortRule
import KE.DataFind
import KE.KDictList
import KE.GoesMore
import KE.GoesEnum
import HandS.Hot
import HandS.HotCalls
import HandS.ExcInitHot
import PyProof.Rows.StrMeet
import PyProof.Rows.TmSorted
import KE.KSortTupG
import HandS.FStrTup
import KE.KRevSl
import HandS.TryMany
import HandS.WordsExc
import HandS.ExcCtx
import PySem.Challenge.RW_linkneed_k31_whole_reach_and_rings
set_option Elab.async false
set_option linter.all false
set_option maxRecDepth 100000
set_option maxHeartbeats 2000000
namespace Lk
open PySem PySem.Spec PyProof.Rows L2
/-! ### heaps and data -/
theorem same_new {H : Hp} {p : Addr} (h : H p = none) (o : HO) : Same H (upd H p o) := fun b u q => by rw [upd_ne (ne_of_none q h)]; exact q
theorem same_del {H H' : Hp} (l : Addr) (e : Same H H') : Same (del H l) (del H' l) := fun b o q => by
  by_cases hb : b = l
  · subst hb; rw [del_same] at q; cases q
  · rw [del_ne hb] at q ⊢; exact e b o q
theorem del_le (H : Hp) (l : Addr) : Same (del H l) H := fun b o q => by
  by_cases hb : b = l
  · subst hb; rw [del_same] at q; cases q
  · rw [del_ne hb] at q; exact q
theorem del_upd (H : Hp) (l : Addr) (o : HO) : del (upd H l o) l = del H l := by
  funext b
  by_cases hb : b = l
  · subst hb; rw [del_same, del_same]
  · rw [del_ne hb, del_ne hb, upd_ne hb]
theorem same_eq {H H' : Hp} (e : H = H') : Same H H' := by subst e; exact Same.refl _
/-- what was tracked and is not at l -/
theorem Same.off {H H' : Hp} {l b : Addr} {o : HO} (e : Same (del H l) (del H' l)) (hb : b ≠ l) (h : H b = some o) : H' b = some o := by
  have q := e b o (by rw [del_ne hb]; exact h)
  rw [del_ne hb] at q
  exact q
theorem seqT_same {K : PySem.W.Frag} {H H' : Hp} {a : Addr} {xs : List V} (e : Same H H') (h : SqT K H a xs) : SqT K H' a xs := by
  rcases h with (h | ⟨o, h⟩) | h
  · exact .inl (.inl (e _ _ h))
  · exact .inl (.inr ⟨o, e _ _ h⟩)
  · exact .inr h
mutual
theorem dp_same {K : PySem.W.Frag} {H H' : Hp} (e : Same H H') : ∀ {v : V} {d : PyData}, Dp K H v d → Dp K H' v d
  | _, _, .non => .non
  | _, _, .bl b => .bl b
  | _, _, .int i => .int i
  | _, _, .str x => .str x
  | _, _, .lst h a => .lst (e.seq h) (dpAll_same e a)
  | _, _, .tup h a => .tup (seqT_same e h) (dpAll_same e a)
theorem dpAll_same {K : PySem.W.Frag} {H H' : Hp} (e : Same H H') : ∀ {vs : List V} {ds : List PyData}, DpAll K H vs ds → DpAll K H' vs ds
  | _, _, .nil => .nil
  | _, _, .cons a b => .cons (dp_same e a) (dpAll_same e b)
end
theorem same_mut {H H' : Hp} {p : Addr} {o : HO} (e : Same H H') (h : H p = none) : Same H (upd H' p o) := fun b u q => by
  rw [upd_ne (ne_of_none q h)]
  exact e b u q
theorem ifT {b : Bool} {A B : Prop} (e : b = true) (h : A) : if b = true then A else B := by subst e; exact iteT h
theorem ifF {b : Bool} {A B : Prop} (e : b = false) (h : B) : if b = true then A else B := by subst e; exact iteF h
theorem ite_both {c : Bool} {A B : Prop} (hB : B) (h : B → c = true → A) : if c = true then A else B := by
  cases c with
  | true => exact iteT (h hB rfl)
  | false => exact iteF hB
theorem dpAll_str {K : PySem.W.Frag} {H : Hp} : ∀ l : List Str, DpAll K H (l.map V.str) (l.map PyData.str)
  | [] => .nil
  | x :: r => .cons (.str x) (dpAll_str r)
def iV (ns : List Int) : List V := ns.map V.int
theorem iV_len (ns : List Int) : (iV ns).length = ns.length := List.length_map _
theorem iV_app (ns : List Int) (i : Int) : iV ns ++ [V.int i] = iV (ns ++ [i]) := by unfold iV; rw [List.map_append]; rfl
theorem iV_get {ns : List Int} {j : Nat} {y : V} (h : (iV ns)[j]? = some y) : ∃ i, ns[j]? = some i ∧ y = .int i := by
  unfold iV at h
  rw [List.getElem?_map] at h
  cases e : ns[j]? with
  | none => rw [e] at h; cases h
  | some i => rw [e] at h; exact ⟨i, rfl, (Option.some.inj h).symm⟩
theorem szl {n : Nat} (h : n ≤ 1000000) : n < sizeLine := Nat.lt_of_le_of_lt h (by decide)
/-! ### kinds of data -/
def tyN : PyData → String
  | .none => "NoneType"
  | .bool _ => "bool"
  | .int _ => "int"
  | .str _ => "str"
  | .list _ => "list"
  | .tuple _ => "tuple"
  | .dict _ => "dict"
def isI : PyData → Bool
  | .int _ => true
  | _ => false
def isB : PyData → Bool
  | .bool _ => true
  | _ => false
def isN : PyData → Bool
  | .int i => decide (0 ≤ i)
  | _ => false
def isW : PyData → Bool
  | .int i => decide (0 ≤ i) && decide (i < 65536)
  | _ => false
theorem ty_of {K : PySem.W.Frag} {H : Hp} {v : V} {d : PyData} (h : Dp K H v d) : TyX K H v (.type (tyN d)) := by
  cases h with
  | non => exact .base .non
  | bl b => exact .base (.bl b)
  | int i => exact .base (.int i)
  | str x => exact .base (.str x)
  | lst h a =>
    rcases h with (h | ⟨o, h⟩) | ⟨o, its, n, h, hc, _⟩
    · exact .base (.lst h)
    · exact .base (.frz h)
    · exact .kList h hc
  | tup h a =>
    rcases h with (h | ⟨o, h⟩) | ⟨o, its, n, h, hc, _⟩
    · exact .base (.tup h)
    · exact .fTuple h
    · exact .kTuple h hc
theorem no_dict {K : PySem.W.Frag} {H : Hp} {v : V} {kvs : List (PyData × PyData)} (h : Dp K H v (.dict kvs)) : False := by cases h
theorem kit_int {K : PySem.W.Frag} {H : Hp} {v : V} {d : PyData} (h : Dp K H v d) : PySem.W.kitOne K (.type (tyN d)) (.type "int") = some (isI d || isB d) := by
  cases h with
  | non => exact kit_ty (a := "NoneType") (b := "int") (r := false) (by decide +kernel)
  | bl b => exact kit_ty (a := "bool") (b := "int") (r := true) (by decide +kernel)
  | int i => exact kit_ty (a := "int") (b := "int") (r := true) (by decide +kernel)
  | str x => exact kit_ty (a := "str") (b := "int") (r := false) (by decide +kernel)
  | lst h a => exact kit_ty (a := "list") (b := "int") (r := false) (by decide +kernel)
  | tup h a => exact kit_ty (a := "tuple") (b := "int") (r := false) (by decide +kernel)
theorem kit_bool {K : PySem.W.Frag} {H : Hp} {v : V} {d : PyData} (h : Dp K H v d) : PySem.W.kitOne K (.type (tyN d)) (.type "bool") = some (isB d) := by
  cases h with
  | non => exact kit_ty (a := "NoneType") (b := "bool") (r := false) (by decide +kernel)
  | bl b => exact kit_ty (a := "bool") (b := "bool") (r := true) (by decide +kernel)
  | int i => exact kit_ty (a := "int") (b := "bool") (r := false) (by decide +kernel)
  | str x => exact kit_ty (a := "str") (b := "bool") (r := false) (by decide +kernel)
  | lst h a => exact kit_ty (a := "list") (b := "bool") (r := false) (by decide +kernel)
  | tup h a => exact kit_ty (a := "tuple") (b := "bool") (r := false) (by decide +kernel)
theorem isI_int {K : PySem.W.Frag} {H : Hp} {v : V} {d : PyData} (h : Dp K H v d) (e : isI d = true) : ∃ i, v = .int i ∧ d = .int i := by
  cases h <;> first | exact ⟨_, rfl, rfl⟩ | cases e
theorem dp_get {K : PySem.W.Frag} {H : Hp} : ∀ {vs : List V} {ds : List PyData} {i : Nat} {v : V}, DpAll K H vs ds → vs[i]? = some v → ∃ d, d ∈ ds ∧ ds[i]? = some d ∧ Dp K H v d
  | _, _, _, _, .nil, e => by simp at e
  | _, _, 0, _, .cons a b, e => by
    simp at e
    subst e
    exact ⟨_, List.mem_cons_self .., rfl, a⟩
  | _, _, i + 1, _, .cons a b, e => by
    obtain ⟨d, h1, h2, h3⟩ := dp_get b (i := i) (by simpa using e)
    exact ⟨d, List.mem_cons_of_mem _ h1, by simpa using h2, h3⟩
theorem dp_len {K : PySem.W.Frag} {H : Hp} : ∀ {vs : List V} {ds : List PyData}, DpAll K H vs ds → vs.length = ds.length
  | _, _, .nil => rfl
  | _, _, .cons a b => by simp [dp_len b]
theorem dp_at {K : PySem.W.Frag} {H : Hp} {vs : List V} {ds : List PyData} {r : Int} (h : DpAll K H vs ds) (h0 : 0 ≤ r) (h1 : r < (ds.length : Int)) : ∃ v d, atI vs r = some v ∧ d ∈ ds ∧ ds[r.toNat]? = some d ∧ Dp K H v d := by
  obtain ⟨n, rfl⟩ : ∃ n : Nat, r = (n : Int) := ⟨r.toNat, by omega⟩
  have hl := dp_len h
  have hn : n < vs.length := by omega
  obtain ⟨d, m, e, q⟩ := dp_get h (List.getElem?_eq_getElem hn)
  exact ⟨vs[n], d, atI_nat (List.getElem?_eq_getElem hn), m, by simpa using e, q⟩
theorem PS.as {X : Cx} {st : Stmt} {t : TS} (t' : TS) (h : L2.PS X st t) (e : t = t' := by rfl) : L2.PS X st t' := e ▸ h
theorem passAt0 {X : Cx} : ∀ σ, PassesAt CX0 X σ ((fun _ => E0) σ) := fun _ _ _ _ _ _ _ h => h.elim
/-! ### in and not in of tuples, items of any depth -/
section
variable {X : Cx}
def rInU (K : PySem.W.Frag) (neg : Bool) : R2 := fun x y H Q => ∃ d ds, Dp K H x d ∧ Dp K H y (.tuple ds) ∧ SeqAt.shaped d = true ∧ SeqAt.shaped (.tuple ds) = true ∧ Q (.bl (if neg then !(ds.any fun z => PyData.eqv z d) else ds.any fun z => PyData.eqv z d)) H
theorem op_inU (hu : X.A.units + 65 < cLine) : OpR X (compareOp .In) (rInU X.K false) := by
  rintro ps₁ s₁ τ G a b va vb R J ra rb ⟨da, db, ha, hb, sa, sb, q⟩
  have ⟨_, w1⟩ := Dp.reads J da a va ha ra
  have ⟨_, w2⟩ := Dp.reads J (.tuple db) b vb hb rb
  exact SeqAt.in_tuple_reads w2 w1 (SeqAt.canLay_of_shaped sb) (SeqAt.canLay_of_shaped sa) (room_in_shaped sa hu) ⟨.bl _, G, J, rfl, q⟩
theorem op_notInU (hu : X.A.units + 65 < cLine) : OpR X (compareOp .NotIn) (rInU X.K true) := by
  rintro ps₁ s₁ τ G a b va vb R J ra rb ⟨da, db, ha, hb, sa, sb, q⟩
  have ⟨_, w1⟩ := Dp.reads J da a va ha ra
  have ⟨_, w2⟩ := Dp.reads J (.tuple db) b vb hb rb
  exact SeqAt.notIn_tuple_reads w2 w1 (SeqAt.canLay_of_shaped sb) (SeqAt.canLay_of_shaped sa) (room_in_shaped sa hu) ⟨.bl _, G, J, rfl, q⟩
/-! ### f(k = v, ..), keywords alone; it may raise, in a try -/
variable {CX : CXT} {k : Nat} {f : Addr} {fd : FuncData} {ps ks : List Str} {sp : Sp} {E : L2.St → XK} {x : Str} {p pos : Pos} {kws : List Keyword} {tk : TA}
  {g : List Value → List Value → List Value} {gV : List V → List V → List V}
def tCallKS (sp : Sp) (gV : List V → List V → List V) (E : L2.St → XK) (tk : TA) : TE := fun σ H Q => tk σ H fun zs H2 => sp (gV [] zs) H2 Q (E σ)
theorem run_fnkS {pins : List (Addr × Obj)} {σ : L2.St} {H : Hp} {s : Shared} {Q : VK} {us ws : List Value} {vs zs : List V} (F : FnOk X.prog X.w X.K X.mg X.base CX k f fd ps sp) (hr : Room k X.A) (hb : KBinds X.K fd ps ks g gV) (hx : PassesAt CX X σ (E σ))
    (I : Inv X pins σ H s) (r : Vals vs us) (rz : Vals zs ws) (h : sp (gV vs zs) H Q (E σ)) : wpAny (model X.prog X.w) X.A (call (.ref f) us (ks.zip ws)) (EP X pins σ Q) X.xe s := by
  have rr := hb.rel r rz
  have len : (g us ws).length = ps.length := rr.length ▸ F.len _ _ _ _ h
  refine wpAny_call (codeAny_mono (F.run X.A X.stack s H ⟨us, ks.zip ws⟩ (g us ws) (gV vs zs) Q (E σ) hr I.env0 (hb.to s us ws I.kIn len) rr h) fun o s₂ ho => ?_)
  match o, ho with
  | .error e, ho => exact hx pins H s e s₂ I ho
  | .ok (.ret _), ho => exact I.after ho
  | .ok .next, ho => exact ho.elim
  | .ok .brk, ho => exact ho.elim
  | .ok .cont, ho => exact ho.elim
theorem pe_callKS (F : FnOk X.prog X.w X.K X.mg X.base CX k f fd ps sp) (hr : Room k X.A) (hg : Gl X x) (hm : X.mg x = some (.ref f)) (hk : PySem.W.keepIn X.K (.ref f) = true) (hb : KBinds X.K fd ps ks g gV) (hx : ∀ σ, PassesAt CX X σ (E σ))
    (hkw : PK X kws tk) (hall : (backToKw pos (keywordEach kws X.env)).all (·.1.isSome) = true := by rfl) (hks : (backToKw pos (keywordEach kws X.env)).filterMap (·.1) = ks := by rfl)
    (hdb : (x == ("__debug__" : Str)) = false := by decide)
    (hpl : ((backTo pos (starEach [] X.env)).any (·.1) || (backToKw pos (keywordEach kws X.env)).any (·.1.isNone)) = false := by rfl) :
    PE X (.Call (.Name x p) [] kws pos) (tCallKS sp gV E tk) := by
  refine ⟨fun pins s σ H Q I h => ?_⟩
  refine wpAny_Call_Name_kw (ld_glob I hg hm ?_ hdb)
  refine PySem.W.callWith_KW0 (M := model X.prog X.w) (h₀ := X.base) I.ok.mod.kin hk hall ?_ hpl
  refine thn (hkw.run pos pins s σ H _ I h) fun ws s2 ⟨zs, H2, I2, rz, q2⟩ => ⟨I2.kIn, ?_⟩
  rw [hks]
  exact run_fnkS (us := []) (vs := []) F hr hb (hx σ) I2 .nil rz q2
/-! ### isinstance of the error that a suite holds, an own class's instance with fields -/
structure ExcK (K : PySem.W.Frag) (C : Addr) : Prop where
  hc : (PySem.W.clsIn K C).isSome = true
  hg : PySem.W.findIn K (.ref C) "__getattribute__" = some (some (.builtin "BaseException.__getattribute__"))
  hk : PySem.W.findIn K (.ref C) "__getattr__" = some none
  hs : PySem.W.subIn K (.ref C) (.type "BaseException") = some true
  ha : PySem.W.findIn K (.ref C) "__class__" = some (some (.builtin "object.__class__"))
  hn : PySem.W.specialIn K (.builtin "object.__class__") "__get__" = some (some (.builtin "getset_descriptor.__get__"))
  ht : PySem.W.takesIn K (.builtin "object.__class__") = some true
  hm : PySem.W.mroIn K C (.type "object") = some true
def rIsX (K : PySem.W.Frag) (a : Addr) (cls : Value) (d : Option Addr) : List V → Hp → VK → Prop := fun xs H Q => ∃ (C dd : Addr) (fs : List (Str × V)) (c : V) (u : Value) (b : Bool),
  cls = .ref C ∧ d = some dd ∧ H dd = some (.xd fs) ∧ ExcK K C ∧ xs = [.ref a, c] ∧ ClsV c u ∧ PySem.W.kitOne K (.ref C) u = some b ∧ Q (.bl b) H
def rIsXT (K : PySem.W.Frag) (a : Addr) (cls : Value) (d : Option Addr) : List V → Hp → VK → Prop := fun xs H Q => ∃ (C dd : Addr) (fs : List (Str × V)) (tp : Addr) (cs : List V) (us : List Value) (b : Bool),
  cls = .ref C ∧ d = some dd ∧ H dd = some (.xd fs) ∧ ExcK K C ∧ xs = [.ref a, .ref tp] ∧ H tp = some (.tup cs) ∧ Paired ClsV cs us ∧ PySem.W.kitAny K (.ref C) us = some b ∧ Q (.bl b) H
theorem inst_x {a C dd : Addr} {fs : List (Str × V)} {cls : Value} {d : Option Addr} {oe : Obj} {pn pins : List (Addr × Obj)} {σ : L2.St} {H : Hp} {s : Shared} (hz : Zc cls d oe) (hf : ∃ vs, oe.data = .fields vs) (I : Inv (X.suite a ((a, oe) :: pn)) pins σ H s) (e1 : cls = .ref C) (e2 : d = some dd) (e3 : H dd = some (.xd fs)) :
    ∃ od, PySem.W.InstAt s.heap a oe C od := by
  subst e1 e2
  have ⟨hget, _⟩ := I.pin (a, oe) (List.mem_append_left _ List.mem_cons_self)
  have ⟨vs, hd⟩ := hf
  have ⟨_, hns, _⟩ := (show ObjOk X.prog X.w H s.heap dd (.xd fs) from I.hok dd _ e3)
  have ⟨od, ho, _⟩ := lookIn_ns hns
  exact ⟨some od, ⟨hget, hz.1, by unfold PySem.W.notCls; rw [hd] <;> rfl, by rw [hz.2]; exact ho⟩⟩
theorem call_isX {a : Addr} {cls : Value} {d : Option Addr} {oe : Obj} {pn : List (Addr × Obj)} (hz : Zc cls d oe) (hf : ∃ vs, oe.data = .fields vs) : CallR (X.suite a ((a, oe) :: pn)) (.builtin "isinstance") (rIsX X.K a cls d) := by
  rintro ps₁ s₁ τ G xs us R J r ⟨C, dd, fs, c, u, b, e1, e2, e3, T, rfl, k, e, q⟩
  have ⟨v1, v2, ev, w1, w2⟩ := vals2 r
  subst ev
  have ec := k.eq w2
  subst ec
  obtain rfl : v1 = Value.ref a := w1
  have ⟨od, at_⟩ := inst_x hz hf J e1 e2 e3
  exact PySem.W.kia_one (PySem.W.kitx_exc T.hc T.hg T.hk T.hs T.ha T.hn T.ht T.hm) J.kIn at_ e (fun z => nomatch z) fun tk => ⟨.bl b, G, J.tok tk, rfl, q⟩
theorem call_isXT {a : Addr} {cls : Value} {d : Option Addr} {oe : Obj} {pn : List (Addr × Obj)} (hz : Zc cls d oe) (hf : ∃ vs, oe.data = .fields vs) : CallR (X.suite a ((a, oe) :: pn)) (.builtin "isinstance") (rIsXT X.K a cls d) := by
  rintro ps₁ s₁ τ G xs us R J r ⟨C, dd, fs, tp, cs, ws, b, e1, e2, e3, T, rfl, hT, k, e, q⟩
  have ⟨v1, v2, ev, w1, w2⟩ := vals2 r
  subst ev
  obtain rfl : v2 = Value.ref tp := w2
  obtain rfl : v1 = Value.ref a := w1
  have ⟨od, at_⟩ := inst_x hz hf J e1 e2 e3
  obtain ⟨_, its, rv, ⟨oc, od', dt, sl⟩, g1, g2, n, g3⟩ : ObjOk X.prog X.w G s₁.heap tp (.tup cs) := J.hok tp _ hT
  have ew := ClsV.all k rv
  subst ew
  obtain rfl : oc = .type "tuple" := g2
  obtain rfl : dt = _ := g3
  exact PySem.W.kia_tup (PySem.W.kitx_exc T.hc T.hg T.hk T.hs T.ha T.hn T.ht T.hm) J.kIn at_ g1 e (fun z => nomatch z) fun tk => ⟨.bl b, G, J.tok tk, rfl, q⟩
end
end Lk

set_option Elab.async false
set_option linter.all false
set_option maxRecDepth 100000
set_option maxHeartbeats 2000000
namespace Lk
open PySem PySem.Spec PyProof.Rows L2
theorem fun_binds {K : PySem.W.Frag} {x qual : Str} {st : Stmt} {f : Addr} {fd : FuncData} {ps ks : List Str} {g : List Value → List Value → List Value} {gV : List V → List V → List V} (F : Fun K x qual st f fd)
    (h : ∀ (kV doc pm : Value) (an : Option Addr) (cdv ct : Value) (us ws : List Value), (g us ws).length = ps.length → bindArgs (PySem.W.fnOf x qual (defArgs st) (defBody st) (defScope st) .none kV doc pm an cdv ct) ⟨us, ks.zip ws⟩ = pure (ps.zip (g us ws)))
    (rel : ∀ {vs : List V} {us : List Value} {zs : List V} {ws : List Value}, Vals vs us → Vals zs ws → Vals (gV vs zs) (g us ws)) : KBinds K fd ps ks g gV := by
  obtain ⟨oc, od, kV, doc, pm, an, cdv, ct, osl, rfl, lk, hcd⟩ := F.ex
  exact ⟨fun s us ws _ hl => .of_eq (h kV doc pm an cdv ct us ws hl), rel⟩
theorem cls_some {K : PySem.W.Frag} {C : Addr} (h : PySem.W.hasDictIn K C = true) : (PySem.W.clsIn K C).isSome = true := by
  obtain ⟨cd, hc, _⟩ := PySem.W.any_some h
  rw [hc]
  rfl
theorem kit_self {K : PySem.W.Frag} {C : Addr} : PySem.W.kitOne K (.ref C) (.ref C) = some true := if_pos (by simp)
theorem kit_own {K : PySem.W.Frag} {C D : Addr} {b : Bool} (hc : (PySem.W.clsIn K D).isSome = true) (ht : PySem.W.typeIn K (.ref D) = some (.type "type")) (h4 : PySem.W.subIn K (.ref C) (.ref D) = some b) (hn : b = false → (Value.ref C == Value.ref D) = false) : PySem.W.kitOne K (.ref C) (.ref D) = some b := by
  have e2 : ((PySem.W.clsIn K D).isSome && PySem.W.typeIn K (.ref D) == some (.type "type")) = true := by rw [hc, ht] <;> rfl
  show (if (Value.ref C == Value.ref D) = true then some true else (if ((PySem.W.clsIn K D).isSome && PySem.W.typeIn K (.ref D) == some (.type "type")) = true then PySem.W.subIn K (.ref C) (.ref D) else none)) = some b
  rw [if_pos e2, h4]
  cases b with
  | true => split <;> rfl
  | false => rw [hn rfl]; rfl
theorem kit_blt {K : PySem.W.Frag} {C : Addr} {T : String} {b : Bool} (hm : PySem.W.kitMeta T = true) (h4 : PySem.W.subIn K (.ref C) (.type T) = some b) : PySem.W.kitOne K (.ref C) (.type T) = some b := by
  show (if (Value.ref C == Value.type T) = true then some true else if PySem.W.kitMeta T = true then PySem.W.subIn K (.ref C) (.type T) else none) = some b
  rw [if_neg (by simp), if_pos hm, h4]
end Lk

set_option Elab.async false
set_option linter.all false
set_option maxRecDepth 100000
set_option maxHeartbeats 2000000
namespace Lk
open PySem PySem.Spec PyProof.Rows L2
theorem deeper_guards (A : Around) (e : Env) : (A.deeper e).guards = A.guards := rfl
/-- a def's promise, where no repr is under way -/
structure FnG (P : Program) (w : World) (K : PySem.W.Frag) (mg : Str → Option Value) (base : Heap) (CX : CXT) (k : Nat) (f : Addr) (fd : FuncData) (ps : List Str) (sp : Sp) : Prop where
  len : ∀ vs H Q E, sp vs H Q E → vs.length = ps.length
  run : ∀ (A : Around) (outer : List Env) (s : Shared) (H : Hp) (args : Args) (us : List Value) (vs : List V) (Q : VK) (E : XK),
    A.guards = some [] → Room k A → Env0 P w K mg base A outer s H → BindsTo s fd args (ps.zip us) → Vals vs us → sp vs H Q E →
      codeAny (model P w) A (.call (.ref f) args) (CR CX outer P w H s Q E) s
section
variable {P : Program} {w : World} {K : PySem.W.Frag} {mg : Str → Option Value} {base : Heap} {CX : CXT}
theorem FnG.mono {j k : Nat} {f : Addr} {fd : FuncData} {ps : List Str} {sp : Sp} (F : FnG P w K mg base CX j f fd ps sp) (h : j ≤ k) : FnG P w K mg base CX k f fd ps sp :=
  ⟨F.len, fun A outer s H args us vs Q E g hr => F.run A outer s H args us vs Q E g (hr.mono h)⟩
theorem FnG.of {k : Nat} {f : Addr} {fd : FuncData} {ps : List Str} {sp : Sp} (F : FnOk P w K mg base CX k f fd ps sp) : FnG P w K mg base CX k f fd ps sp :=
  ⟨F.len, fun A outer s H args us vs Q E _ hr => F.run A outer s H args us vs Q E hr⟩
theorem okG {x qual : Str} {st : Stmt} {f : Addr} {fd : FuncData} {N ps : List Str} {k : Nat} {sp : Sp} (F : Fun K x qual st f fd) (S : FnScope N ps (defScope st)) (len : ∀ vs H Q E, sp vs H Q E → vs.length = ps.length)
    (body : ∀ (cdv : Value) (A : Around) (outer : List Env) (s : Shared) (H : Hp) (vs : List V) (Q : VK) (E : XK), A.guards = some [] → Room k (A.deeper (envOfC qual (defScope st) s.heap.objs.size f cdv)) → sp vs H Q E →
      ∃ t, PSs (cxOf CX0 P w K mg base N qual (defScope st) f cdv A outer s H E).nox (defBody st) t ∧ t { nx := fun _ H' => Q .non H', rt := Q } (L2.start N vs) H) :
    FnG P w K mg base CX0 (k + 1) f fd ps sp := by
  obtain ⟨oc, od, kV, doc, pm, an, cdv, ct, osl, e, lk, hc⟩ := F.ex
  subst e
  refine ⟨len, fun A outer s H args us vs Q E g hr e0 hb r hsp => ?_⟩
  refine LamX.run_ofS lk hc S hr e0 hb r (len _ _ _ _ hsp) fun hr2 => ?_
  obtain ⟨t, h1, h2⟩ := body cdv A outer s H vs Q E g hr2 hsp
  exact ⟨t, h1.nox, h2⟩
end
section
variable {X : Cx} {CX : CXT} {k : Nat} {f : Addr} {fd : FuncData} {ps : List Str} {sp : Sp} {E : XK} {x : Str} {p pos : Pos} {e : Expr} {es : List Expr} {t : TA} {ds : List Value} {dvs : List V}
theorem run_fnG {pins : List (Addr × Obj)} {σ : L2.St} {H : Hp} {s : Shared} {Q : VK} {us : List Value} {vs : List V} (F : FnG X.prog X.w X.K X.mg X.base CX k f fd ps sp) (gu : X.A.guards = some []) (hr : Room k X.A) (hb : Binds X.K fd ps ds) (hd : Vals dvs ds)
    (hx : Passes CX X E) (I : Inv X pins σ H s) (r : Vals vs us) (h : sp (vs ++ dvs) H Q E) : wpAny (model X.prog X.w) X.A (call (.ref f) us) (EP X pins σ Q) X.xe s := by
  have rr := r.append hd
  have ln : (us ++ ds).length = ps.length := rr.length ▸ F.len _ _ _ _ h
  have c := F.run X.A X.stack s H ⟨us, []⟩ (us ++ ds) (vs ++ dvs) Q E gu hr I.env0 (hb s us I.kIn ln) rr h
  refine wpAny_call (codeAny_mono c fun o s2 ho => ?_)
  match o, ho with
  | .error er, ho => exact hx pins σ H s er s2 I ho
  | .ok (.ret _), ho => exact I.after ho
  | .ok .next, ho => exact ho.elim
  | .ok .brk, ho => exact ho.elim
  | .ok .cont, ho => exact ho.elim
theorem pe_callG (F : FnG X.prog X.w X.K X.mg X.base CX k f fd ps sp) (gu : X.A.guards = some []) (hr : Room k X.A) (hg : Gl X x) (hm : X.mg x = some (.ref f)) (hk : PySem.W.keepIn X.K (.ref f) = true) (hb : Binds X.K fd ps ds) (hd : Vals dvs ds) (hx : Passes CX X E)
    (ha : PA X (e :: es) t) (hdb : (x == ("__debug__" : Str)) = false := by decide) (he : starEach (e :: es) X.env = (false, eval e X.env) :: starEach es X.env := by rfl) (hpl : (backTo pos (starEach es X.env)).any (·.1) = false := by rfl) :
    PE X (.Call (.Name x p) (e :: es) [] pos) (tCall sp dvs E t) :=
  ⟨fun pins s σ H Q I h => wpAny_Call_Name_kw (ld_glob I hg hm (PySem.W.callWith_K (h₀ := X.base) I.ok.mod.kin hk
    (thn (ha.run pos pins s σ H _ I h) fun us s1 ⟨vs, H1, I1, r, q⟩ => ⟨I1.kIn, run_fnG F gu hr hb hd hx I1 r q⟩) he hpl) hdb)⟩
end
/-! ### repr of data -/
def rRepr (K : PySem.W.Frag) : List V → Hp → VK → Prop := fun xs H Q => ∃ (x : V) (d : PyData), xs = [x] ∧ Dp K H x d ∧ isDisplay d = true ∧ d.showable = true ∧ d.hasDict = false ∧ d.depth ≤ 100 ∧ d.shown.length ≤ sizeLine ∧ Q (.str d.shown) H
theorem call_reprD {X : Cx} (gu : X.A.guards = some []) (hu : X.A.units + 200 < cLine) : CallR X (.builtin "repr") (rRepr X.K) := by
  intro pins s σ H xs us Q I r h
  obtain ⟨x, d, e, hd, i, sh, nd, dp, sz, q⟩ := h
  subst e
  obtain ⟨u, e, rx⟩ := vals1 r
  subst e
  obtain ⟨as, rd⟩ := hd.reads I d x u rx
  obtain ⟨a, e⟩ := isRef_of_reads rd i
  subst e
  refine repr_of_reads' rd sh (PyData.noDict_hsm nd) gu (by omega) (fun _ _ z => z) (fun h' t k z => ?_) sz
  exact ⟨.str d.shown, H, I.kept (t' := k) z, ⟨t, rfl⟩, q⟩
end Lk

set_option Elab.async false
set_option linter.all false
set_option maxRecDepth 100000
set_option maxHeartbeats 2000000
namespace Lk
open PySem PySem.Spec PyProof.Rows L2
/-! ### the end of a law whose def is promised where no repr is under way -/
def Fine (s₁ : Shared) : Result → Shared → Prop := fun r s' => r = .ok (.ret (.bool true)) ∧ OldK s₁.heap s'.heap ∧ s'.os = s₁.os ∧ AllBare s'.gens
section
variable {P : Program} {w : World} {K : PySem.W.Frag} {mg mb : Str → Option Value} {CX : CXT} {k : Nat} {fa a : Addr} {fd : FuncData} {x : Str} {sp : Sp} {s₁ : Shared} {vs : List Value} {ns : List Int}
/-- what is tracked at the start: nothing, or the script alone -/
structure Begin (P : Program) (w : World) (K : PySem.W.Frag) (H : Hp) (h : Heap) (a : Addr) : Prop where
  only : Only H
  good : HOk P w H h
  one : ∀ b, H b ≠ none → b = a
  out : H a ≠ none → K.lookup a = none
theorem Begin.sees {H : Hp} (B : Begin P w K H s₁.heap a) (ha : s₁.heap.get? a = some { cls := .type "list", data := .seq vs.toArray }) {b : Addr} {m : Str → Option Value} (n : s₁.heap.Ns b m) : (hidT s₁.heap H).Ns b m := by
  obtain ⟨o, es, ep, e, d, r⟩ := n
  cases q : H b with
  | none => exact ⟨o, es, ep, hidT_get e q, d, r⟩
  | some u =>
    have z := B.one b (by rw [q]; exact fun y => nomatch y)
    subst z
    rw [ha] at e
    obtain rfl := Option.some.inj e
    exact nomatch d
theorem Begin.keeps {H : Hp} (B : Begin P w K H s₁.heap a) (KX : K.In s₁.heap) : K.In (hidT s₁.heap H) := fun b o e => by
  refine hidT_get (KX b o e) ?_
  cases q : H b with
  | none => rfl
  | some u =>
    have y : H b ≠ none := by rw [q]; exact fun y => nomatch y
    have z := B.one b y
    subst z
    rw [B.out y] at e
    exact nomatch e
theorem Begin.goes {H : Hp} (B : Begin P w K H s₁.heap a) (KX : K.In s₁.heap) (hns : s₁.heap.Ns mainGlobals mg) (hb : s₁.heap.Ns builtinsNs mb) (hbb : ∀ x : Str, x ≠ "__name__" → mb x = bootBuiltins x) (hlim : s₁.heap.NoLimit) (hg : s₁.gens = #[])
    (ha : s₁.heap.get? a = some { cls := .type "list", data := .seq vs.toArray }) (hr : Room k callerA)
    (F : ∀ base : Heap, K.In base → base.Ns mainGlobals mg → FnG P w K mg base CX k fa fd [x] sp) (bind : ∀ (s : Shared) (u : Value), BindsTo s fd ⟨[u], []⟩ [(x, u)])
    (hsp : sp [.ref a] H (fun v _ => v = .bl true) fun _ _ _ => False) (hCX : ∀ H e s', CX [] H s₁ (fun _ _ _ => False) e s' → False) : codeAny (model P w) callerA (.call (.ref fa) ⟨[.ref a], []⟩) (Fine s₁) s₁ := by
  obtain ⟨mc, l1, l2⟩ := hlim
  have M : Mod K mg (hidT s₁.heap H) := ⟨B.keeps KX, B.sees ha hns, ⟨mb, B.sees ha hb, hbb⟩, mc, B.sees ha l1, l2⟩
  have e0 : Env0 P w K mg (hidT s₁.heap H) callerA [] s₁ H := by
    refine ⟨rfl, M, fun b o e => of_hidT e, ?_, trivial, fun b z => ?_, B.good, .of_eq hg⟩
    · rw [hidT_size]; exact Nat.le_refl _
    · exact nomatch (show b ∈ ([] : List Addr) from z)
  have c := (F _ (B.keeps KX) (B.sees ha hns)).run callerA [] s₁ H ⟨[.ref a], []⟩ [.ref a] [.ref a] _ _ rfl hr e0 (bind s₁ (.ref a)) (.cons rfl .nil) hsp
  refine codeAny_mono c fun r s' z => ?_
  match r, z with
  | .error e, z => exact (hCX H e s' z).elim
  | .ok .next, z => exact z.elim
  | .ok .brk, z => exact z.elim
  | .ok .cont, z => exact z.elim
  | .ok (.ret u), z =>
    obtain ⟨v, H', os, bare, un, good', rv, q⟩ := z
    obtain rfl : v = .bl true := q
    obtain rfl : u = Value.bool true := rv
    refine ⟨rfl, OldK.of_keep fun b o e => ?_, os, bare⟩
    rcases B.only b with y | ⟨ob, xs, y⟩
    · exact un.keep b o e y (fun t => nomatch (show b ∈ ([] : List Addr) from t)) (fun t => nomatch t)
    · have y2 := un.frzs b ob _ y
      have g1 := (B.good b _ y).1
      have g2 := (good' b _ y2).1
      rw [e] at g1
      obtain rfl := Option.some.inj g1
      exact g2
theorem law_go (KX : K.In s₁.heap) (hns : s₁.heap.Ns mainGlobals mg) (hb : s₁.heap.Ns builtinsNs mb) (hbb : ∀ x : Str, x ≠ "__name__" → mb x = bootBuiltins x) (hlim : s₁.heap.NoLimit) (hg : s₁.gens = #[])
    (ha : s₁.heap.get? a = some { cls := .type "list", data := .seq vs.toArray }) (hi : IntsAre vs ns) (hl : ns.length ≤ sizeLine) (hr : Room k callerA)
    (F : ∀ base : Heap, K.In base → base.Ns mainGlobals mg → FnG P w K mg base CX k fa fd [x] sp) (bind : ∀ (s : Shared) (u : Value), BindsTo s fd ⟨[u], []⟩ [(x, u)])
    (hsp : ∀ H : Hp, Only H → SqL K H a (ns.map V.int) → sp [.ref a] H (fun v _ => v = .bl true) fun _ _ _ => False) (hCX : ∀ H e s', CX [] H s₁ (fun _ _ _ => False) e s' → False) : codeAny (model P w) callerA (.call (.ref fa) ⟨[.ref a], []⟩) (Fine s₁) s₁ := by
  have vi := vals_ints hi
  by_cases hk : K.lookup a = none
  · let H : Hp := fun b => if b = a then some (.frz { cls := .type "list", data := .seq vs.toArray } (.lst (ns.map V.int))) else none
    have ya : H a = some (.frz { cls := .type "list", data := .seq vs.toArray } (.lst (ns.map V.int))) := if_pos rfl
    have yb : ∀ b, b ≠ a → H b = none := fun b z => if_neg z
    have B : Begin P w K H s₁.heap a := by
      refine ⟨fun b => ?_, fun b u z => ?_, fun b z => ?_, fun _ => hk⟩
      · by_cases y : b = a
        · subst y; exact .inr ⟨_, _, ya⟩
        · exact .inl (yb b y)
      · by_cases y : b = a
        · subst y
          rw [ya] at z
          obtain rfl := Option.some.inj z
          exact ⟨ha, by rw [List.length_map]; exact hl, vs, _, vi, ha⟩
        · rw [yb b y] at z; exact nomatch z
      · by_cases y : b = a
        · exact y
        · exact absurd (yb b y) z
    exact B.goes KX hns hb hbb hlim hg ha hr F bind (hsp H B.only (.inl (.inr ⟨_, ya⟩))) hCX
  · obtain ⟨o, ho⟩ := Option.ne_none_iff_exists'.mp hk
    have e := KX a o ho
    rw [ha] at e
    obtain rfl := Option.some.inj e
    have B : Begin P w K (fun _ => none) s₁.heap a := ⟨fun _ => .inl rfl, fun _ _ z => (nomatch z), fun _ z => absurd rfl z, fun z => absurd rfl z⟩
    refine B.goes KX hns hb hbb hlim hg ha hr F bind (hsp _ B.only (.inr ⟨_, vs.toArray, _, ho, rfl, rfl, rfl, ?_, ?_⟩)) hCX
    · rw [List.size_toArray, hi.length]; exact hl
    · exact vi
end
/-- the goal that k_head leaves (case hc) -/
theorem walk_go {l : PySem.W.OpenLaw} {n k : Nat} {q : Program} {loose : List Str} {XP : (Str → Option Value) → Heap → Prop} {YP : World → Heap → Prop} {d : DefRec} {K : Params → PySem.W.Frag} {CX : CXT} {sp : PySem.W.Frag → Sp} {x : Str}
    (hn : l.most = some n) (hn2 : n ≤ sizeLine) (hdf : d.params.defaults = []) (hr : Room k callerA) (hY : ∀ (w : World) (h : Heap), YP w h → (K w.params).In h)
    (F : ∀ (w : World) (mg : Str → Option Value) (fa : Addr) (h : Heap), (K w.params).In h → h.Ns mainGlobals mg → mg d.name = some (.ref fa) →
      ∃ fd : FuncData, (∀ (s : Shared) (u : Value), BindsTo s fd ⟨[u], []⟩ [(x, u)]) ∧ ∀ base : Heap, (K w.params).In base → base.Ns mainGlobals mg → FnG l.prog w (K w.params) mg base CX k fa fd [x] (sp (K w.params)))
    (hsp : ∀ (K : PySem.W.Frag) (H : Hp) (a : Addr) (ns : List Int), ns.length ≤ n → Only H → SqL K H a (ns.map V.int) → sp K [.ref a] H (fun v _ => v = .bl true) fun _ _ _ => False)
    (hCX : ∀ (H : Hp) (s : Shared) (e : Value) (s' : Shared), CX [] H s (fun _ _ _ => False) e s' → False) : PySem.W.WalkO q loose XP YP l.row.toRowW d [] (fun f vs => PySem.call f vs) := by
  refine Att.attach_call hn hdf fun w s₀ s₁ mg mb fa o pm cd doc a vs ns G Y ho hd hcd hmg hobj hints hlen hg => ?_
  obtain ⟨fd, hb, hF⟩ := F w mg fa _ (hY w _ Y) G.T.g hmg
  exact law_go (hY w _ Y) G.T.g G.T.b G.T.builtins G.T.nolimit hg hobj hints (Nat.le_trans hlen hn2) hr hF hb (fun H hO hS => hsp (K w.params) H a ns hlen hO hS) fun H e s' => hCX H s₁ e s'
end Lk

set_option Elab.async false
set_option linter.all false
set_option maxRecDepth 100000
set_option maxHeartbeats 2000000
namespace Lk
open PySem PySem.Spec PyProof.Rows L2
/-! ### the end of a law with one table of code objects, where no repr is under way -/
abbrev tabO : Obj := { cls := .none, data := .fields #[] }
section
variable {P : Program} {w : World} {K : PySem.W.Frag} {mg mb : Str → Option Value} {CX : CXT} {k : Nat} {fa a c t : Addr} {fd : FuncData} {x : Str} {sp : Sp} {s₁ : Shared} {vs : List Value} {ns : List Int}
/-- what is tracked at the start: the table, and the script or not -/
structure BeginT (P : Program) (w : World) (K : PySem.W.Frag) (H : Hp) (h : Heap) (a t : Addr) : Prop where
  tab : H t = some (.tbl #[])
  only : ∀ b, b ≠ t → H b = none ∨ ∃ o xs, H b = some (.frz o xs)
  good : HOk P w H h
  one : ∀ b, H b ≠ none → b = a ∨ b = t
  out : H a ≠ none → K.lookup a = none
theorem BeginT.free {H : Hp} (B : BeginT P w K H s₁.heap a t) (ha : s₁.heap.get? a = some { cls := .type "list", data := .seq vs.toArray }) (ht : s₁.heap.get? t = some tabO) {b : Addr} {o : Obj} (e : s₁.heap.get? b = some o) (n1 : ∀ v n, o.data ≠ .seq v n) (n2 : o.data ≠ .fields #[]) : H b = none := by
  cases q : H b with
  | none => rfl
  | some u =>
    rcases B.one b (by rw [q]; exact fun y => nomatch y) with z | z
    · subst z
      rw [ha] at e
      obtain rfl := Option.some.inj e
      exact absurd rfl (n1 _ _)
    · subst z
      rw [ht] at e
      obtain rfl := Option.some.inj e
      exact absurd rfl n2
theorem BeginT.sees {H : Hp} (B : BeginT P w K H s₁.heap a t) (ha : s₁.heap.get? a = some { cls := .type "list", data := .seq vs.toArray }) (ht : s₁.heap.get? t = some tabO) {b : Addr} {m : Str → Option Value} (n : s₁.heap.Ns b m) : (hidT s₁.heap H).Ns b m := by
  obtain ⟨o, es, ep, e, d, r⟩ := n
  refine ⟨o, es, ep, hidT_get e (B.free ha ht e (fun v n z => ?_) fun z => ?_), d, r⟩
  · rw [d] at z; exact nomatch z
  · rw [d] at z; exact nomatch z
theorem BeginT.keeps {H : Hp} (B : BeginT P w K H s₁.heap a t) (nt : K.lookup t = none) (KX : K.In s₁.heap) : K.In (hidT s₁.heap H) := fun b o e => by
  refine hidT_get (KX b o e) ?_
  cases q : H b with
  | none => rfl
  | some u =>
    have y : H b ≠ none := by rw [q]; exact fun y => nomatch y
    rcases B.one b y with z | z
    · subst z
      rw [B.out y] at e
      exact nomatch e
    · subst z
      rw [nt] at e
      exact nomatch e
theorem BeginT.table {H : Hp} (B : BeginT P w K H s₁.heap a t) (ha : s₁.heap.get? a = some { cls := .type "list", data := .seq vs.toArray }) (ht : s₁.heap.get? t = some tabO) (hc : PySem.W.CodeHd s₁.heap c t) (hns : s₁.heap.Ns mainGlobals mg)
    (hbm : ∃ (bm : Addr) (ob : Obj), mg "__builtins__" = some (.ref bm) ∧ bm ≠ builtinsNs ∧ s₁.heap.get? bm = some ob ∧ ob.cls = .type "module" ∧ ob.dict = some builtinsNs ∧ ob.data = .plain) : LamX.TabB (hidT s₁.heap H) mg c t := by
  obtain ⟨og, eg, ep, hg1, hg2, _⟩ := id hns
  refine ⟨?_, ?_, fun z => ?_⟩
  · obtain ⟨o, us, file, tf, flags, tg, inF, text, tt, e1, r1, r2, r3, rest⟩ := hc
    refine ⟨o, us, file, tf, flags, tg, inF, text, tt, hidT_get e1 (B.free ha ht e1 (fun v n z => ?_) fun z => ?_), r1, r2, r3, rest⟩
    · rw [r2] at z; exact nomatch z
    · rw [r2] at z
      obtain rfl := Data.fields.inj z
      exact nomatch r3
  · obtain ⟨m, om, m1, m2, m3, m4, m5, m6⟩ := hbm
    refine ⟨m, om, m1, m2, fun z => ?_, fun z => ?_, hidT_get m3 (B.free ha ht m3 (fun v n z => ?_) fun z => ?_), m4, m5, m6⟩
    · subst z
      rw [hg1] at m3
      obtain rfl := Option.some.inj m3
      rw [m6] at hg2; exact nomatch hg2
    · subst z
      rw [ht] at m3
      obtain rfl := Option.some.inj m3
      exact nomatch m6
    · rw [m6] at z; exact nomatch z
    · rw [m6] at z; exact nomatch z
  · rw [z, ht] at hg1
    obtain rfl := Option.some.inj hg1
    exact nomatch hg2
theorem BeginT.goes {H : Hp} (B : BeginT P w K H s₁.heap a t) (KX : K.In s₁.heap) (hns : s₁.heap.Ns mainGlobals mg) (hb : s₁.heap.Ns builtinsNs mb) (hbb : ∀ x : Str, x ≠ "__name__" → mb x = bootBuiltins x) (hlim : s₁.heap.NoLimit) (hg : s₁.gens = #[])
    (ha : s₁.heap.get? a = some { cls := .type "list", data := .seq vs.toArray }) (ht : s₁.heap.get? t = some tabO) (nt : K.lookup t = none) (hc : PySem.W.CodeHd s₁.heap c t)
    (hbm : ∃ (bm : Addr) (ob : Obj), mg "__builtins__" = some (.ref bm) ∧ bm ≠ builtinsNs ∧ s₁.heap.get? bm = some ob ∧ ob.cls = .type "module" ∧ ob.dict = some builtinsNs ∧ ob.data = .plain) (hr : Room k callerA)
    (F : ∀ base : Heap, K.In base → base.Ns mainGlobals mg → LamX.TabB base mg c t → FnG P w K mg base CX k fa fd [x] sp) (bind : ∀ (s : Shared) (u : Value), BindsTo s fd ⟨[u], []⟩ [(x, u)])
    (hsp : sp [.ref a] H (fun v _ => v = .bl true) fun _ _ _ => False) (hCX : ∀ H e s', CX [] H s₁ (fun _ _ _ => False) e s' → False) : codeAny (model P w) callerA (.call (.ref fa) ⟨[.ref a], []⟩) (Fine s₁) s₁ := by
  obtain ⟨mc, l1, l2⟩ := hlim
  have M : Mod K mg (hidT s₁.heap H) := ⟨B.keeps nt KX, B.sees ha ht hns, ⟨mb, B.sees ha ht hb, hbb⟩, mc, B.sees ha ht l1, l2⟩
  have e0 : Env0 P w K mg (hidT s₁.heap H) callerA [] s₁ H := by
    refine ⟨rfl, M, fun b o e => of_hidT e, ?_, trivial, fun b z => ?_, B.good, .of_eq hg⟩
    · rw [hidT_size]; exact Nat.le_refl _
    · exact nomatch (show b ∈ ([] : List Addr) from z)
  have go := (F _ (B.keeps nt KX) (B.sees ha ht hns) (B.table ha ht hc hns hbm)).run callerA [] s₁ H ⟨[.ref a], []⟩ [.ref a] [.ref a] _ _ rfl hr e0 (bind s₁ (.ref a)) (.cons rfl .nil) hsp
  refine codeAny_mono go fun r s' z => ?_
  match r, z with
  | .error e, z => exact (hCX H e s' z).elim
  | .ok .next, z => exact z.elim
  | .ok .brk, z => exact z.elim
  | .ok .cont, z => exact z.elim
  | .ok (.ret u), z =>
    obtain ⟨v, H', os, bare, un, good', rv, q⟩ := z
    obtain rfl : v = .bl true := q
    obtain rfl : u = Value.bool true := rv
    have stays : ∀ b o, b ≠ t → s₁.heap.get? b = some o → s'.heap.get? b = some o := fun b o nb e => by
      rcases B.only b nb with y | ⟨ob, xs, y⟩
      · exact un.keep b o e y (fun t => nomatch (show b ∈ ([] : List Addr) from t)) (fun t => nomatch t)
      · have g1 := (B.good b _ y).1
        have g2 := (good' b _ (un.frzs b ob _ y)).1
        rw [e] at g1
        obtain rfl := Option.some.inj g1
        exact g2
    obtain ⟨more, hm⟩ := un.tbls t #[] B.tab
    have hm' : s'.heap.get? t = some { cls := .none, data := .fields (#[] ++ more) } := good' t _ hm
    refine ⟨rfl, ⟨fun b o e => ?_, fun b o e => ?_⟩, os, bare⟩
    · by_cases z : b = t
      · subst z
        rw [ht] at e
        obtain rfl := Option.some.inj e
        exact .inr (.inl ⟨(hc.tab ht).isCodeTable, rfl, #[], more, rfl, hm'⟩)
      · exact .inl (stays b o z e)
    · by_cases z : b = t
      · subst z; exact ⟨_, hm'⟩
      · exact ⟨o, stays b o z e⟩
theorem law_goT (KX : K.In s₁.heap) (hns : s₁.heap.Ns mainGlobals mg) (hb : s₁.heap.Ns builtinsNs mb) (hbb : ∀ x : Str, x ≠ "__name__" → mb x = bootBuiltins x) (hlim : s₁.heap.NoLimit) (hg : s₁.gens = #[])
    (ha : s₁.heap.get? a = some { cls := .type "list", data := .seq vs.toArray }) (ht : s₁.heap.get? t = some tabO) (nt : K.lookup t = none) (hc : PySem.W.CodeHd s₁.heap c t)
    (hbm : ∃ (bm : Addr) (ob : Obj), mg "__builtins__" = some (.ref bm) ∧ bm ≠ builtinsNs ∧ s₁.heap.get? bm = some ob ∧ ob.cls = .type "module" ∧ ob.dict = some builtinsNs ∧ ob.data = .plain) (hi : IntsAre vs ns) (hl : ns.length ≤ sizeLine) (hr : Room k callerA)
    (F : ∀ base : Heap, K.In base → base.Ns mainGlobals mg → LamX.TabB base mg c t → FnG P w K mg base CX k fa fd [x] sp) (bind : ∀ (s : Shared) (u : Value), BindsTo s fd ⟨[u], []⟩ [(x, u)])
    (hsp : ∀ H : Hp, H t = some (.tbl #[]) → SqL K H a (ns.map V.int) → sp [.ref a] H (fun v _ => v = .bl true) fun _ _ _ => False) (hCX : ∀ H e s', CX [] H s₁ (fun _ _ _ => False) e s' → False) : codeAny (model P w) callerA (.call (.ref fa) ⟨[.ref a], []⟩) (Fine s₁) s₁ := by
  have vi := vals_ints hi
  have nat : a ≠ t := fun z => by
    rw [z, ht] at ha
    exact nomatch congrArg Obj.data (Option.some.inj ha)
  by_cases hk : K.lookup a = none
  · let H : Hp := fun b => if b = t then some (.tbl #[]) else if b = a then some (.frz { cls := .type "list", data := .seq vs.toArray } (.lst (ns.map V.int))) else none
    have yt : H t = some (.tbl #[]) := if_pos rfl
    have ya : H a = some (.frz { cls := .type "list", data := .seq vs.toArray } (.lst (ns.map V.int))) := (if_neg nat).trans (if_pos rfl)
    have yb : ∀ b, b ≠ t → b ≠ a → H b = none := fun b z y => (if_neg z).trans (if_neg y)
    have B : BeginT P w K H s₁.heap a t := by
      refine ⟨yt, fun b n => ?_, fun b u z => ?_, fun b z => ?_, fun _ => hk⟩
      · by_cases y : b = a
        · subst y; exact .inr ⟨_, _, ya⟩
        · exact .inl (yb b n y)
      · by_cases n : b = t
        · subst n
          rw [yt] at z
          obtain rfl := Option.some.inj z
          exact ht
        · by_cases y : b = a
          · subst y
            rw [ya] at z
            obtain rfl := Option.some.inj z
            exact ⟨ha, by rw [List.length_map]; exact hl, vs, _, vi, ha⟩
          · rw [yb b n y] at z; exact nomatch z
      · by_cases n : b = t
        · exact .inr n
        · by_cases y : b = a
          · exact .inl y
          · exact absurd (yb b n y) z
    exact B.goes KX hns hb hbb hlim hg ha ht nt hc hbm hr F bind (hsp H yt (.inl (.inr ⟨_, ya⟩))) hCX
  · obtain ⟨o, ho⟩ := Option.ne_none_iff_exists'.mp hk
    have e := KX a o ho
    rw [ha] at e
    obtain rfl := Option.some.inj e
    let H : Hp := fun b => if b = t then some (.tbl #[]) else none
    have yt : H t = some (.tbl #[]) := if_pos rfl
    have yb : ∀ b, b ≠ t → H b = none := fun b z => if_neg z
    have B : BeginT P w K H s₁.heap a t := by
      refine ⟨yt, fun b n => .inl (yb b n), fun b u z => ?_, fun b z => ?_, fun z => absurd (yb a nat) z⟩
      · by_cases n : b = t
        · subst n
          rw [yt] at z
          obtain rfl := Option.some.inj z
          exact ht
        · rw [yb b n] at z; exact nomatch z
      · by_cases n : b = t
        · exact .inr n
        · exact absurd (yb b n) z
    refine B.goes KX hns hb hbb hlim hg ha ht nt hc hbm hr F bind (hsp _ yt (.inr ⟨_, vs.toArray, _, ho, rfl, rfl, rfl, ?_, ?_⟩)) hCX
    · rw [List.size_toArray, hi.length]; exact hl
    · exact vi
end
/-- the table of the def of that name -/
structure TabAt (K : PySem.W.Frag) (f c t : Addr) : Prop where
  fn : ∃ (o : Obj) (fd : FuncData), K.lookup f = some o ∧ o.data = .func fd ∧ fd.code = .ref c
  code : ∃ (e : Value) (dd : Option Addr) (vs : Array Value) (sl : Array (Option Value)), K.lookup c = some ⟨e, dd, .fields vs, sl⟩ ∧ vs[11]? = some (.ref t)
  none : K.lookup t = none
theorem walk_goT {l : PySem.W.OpenLaw} {n k : Nat} {q : Program} {loose : List Str} {XP : (Str → Option Value) → Heap → Prop} {YP : World → Heap → Prop} {d : DefRec} {K : Params → PySem.W.Frag} {CX : CXT} {sp : Addr → PySem.W.Frag → Sp} {x y : Str}
    (hn : l.most = some n) (hn2 : n ≤ sizeLine) (hdf : d.params.defaults = []) (hr : Room k callerA) (hrec : ((recsOf q).any fun e => e.name == y) = true) (hY : ∀ (w : World) (h : Heap), YP w h → (K w.params).In h)
    (F : ∀ (w : World) (mg : Str → Option Value) (fa : Addr) (h : Heap), (K w.params).In h → h.Ns mainGlobals mg → mg d.name = some (.ref fa) →
      ∃ (fd : FuncData) (f c t : Addr), mg y = some (.ref f) ∧ TabAt (K w.params) f c t ∧ (∀ (s : Shared) (u : Value), BindsTo s fd ⟨[u], []⟩ [(x, u)]) ∧ ∀ base : Heap, (K w.params).In base → base.Ns mainGlobals mg → LamX.TabB base mg c t → FnG l.prog w (K w.params) mg base CX k fa fd [x] (sp t (K w.params)))
    (hsp : ∀ (t : Addr) (K : PySem.W.Frag) (H : Hp) (a : Addr) (ns : List Int), ns.length ≤ n → H t = some (.tbl #[]) → SqL K H a (ns.map V.int) → sp t K [.ref a] H (fun v _ => v = .bl true) fun _ _ _ => False)
    (hCX : ∀ (H : Hp) (s : Shared) (e : Value) (s' : Shared), CX [] H s (fun _ _ _ => False) e s' → False) : PySem.W.WalkO q loose XP YP l.row.toRowW d [] (fun f vs => PySem.call f vs) := by
  refine Att.attach_call hn hdf fun w s₀ s₁ mg mb fa o pm cd doc a vs ns G Y ho hd hcd hmg hobj hints hlen hg => ?_
  have KX := hY w _ Y
  obtain ⟨fd, f, c, t, hf, ⟨⟨o1, fd1, k1, k2, k3⟩, ⟨ec, dd, vc, sl, k4, k5⟩, nt⟩, hb, hF⟩ := F w mg fa _ KX G.T.g hmg
  obtain ⟨dL, hm, nm⟩ := List.any_eq_true.mp hrec
  obtain ⟨a', o', fd', c', P', t1, t2, t3, t4, t5, t6⟩ := G.T.tab dL hm
  rw [show dL.name = y from beq_iff_eq.mp nm, hf] at t1
  obtain rfl := Value.ref.inj (Option.some.inj t1)
  rw [KX _ _ k1] at t2
  obtain rfl := Option.some.inj t2
  rw [k2] at t3
  obtain rfl := Data.func.inj t3
  rw [k3] at t4
  obtain rfl := Value.ref.inj t4
  obtain ⟨⟨oc, vo, y1, y2, y3, y4⟩, y5⟩ := id t6
  rw [KX _ _ k4] at y1
  obtain rfl := Option.some.inj y1
  obtain rfl := Data.fields.inj y3
  rw [k5] at y4
  obtain rfl := Value.ref.inj (Option.some.inj y4)
  exact law_goT KX G.T.g G.T.b G.T.builtins G.T.nolimit hg hobj y5 nt (PySem.W.CodeHd.of t5 t6) G.T.bmain hints (Nat.le_trans hlen hn2) hr hF hb (fun H hO hS => hsp t (K w.params) H a ns hlen hO hS) fun H e s' => hCX H s₁ e s'
/-- a def over its own table -/
theorem okGT {P : Program} {w : World} {K : PySem.W.Frag} {mg : Str → Option Value} {base : Heap} {x qual : Str} {st : Stmt} {f c : Addr} {fd : FuncData} {N ps : List Str} {k : Nat} {sp : Sp} (F : Fun K x qual st f fd) (S : FnScope N ps (defScope st))
    (hc : ∃ (o : Obj) (fd : FuncData), K.lookup f = some o ∧ o.data = .func fd ∧ fd.code = .ref c) (len : ∀ vs H Q E, sp vs H Q E → vs.length = ps.length)
    (body : ∀ (A : Around) (outer : List Env) (s : Shared) (H : Hp) (vs : List V) (Q : VK) (E : XK), A.guards = some [] → Room k (A.deeper (envOfC qual (defScope st) s.heap.objs.size f (.ref c))) → sp vs H Q E →
      ∃ t, PSs (cxOf CX0 P w K mg base N qual (defScope st) f (.ref c) A outer s H E).nox (defBody st) t ∧ t { nx := fun _ H' => Q .non H', rt := Q } (L2.start N vs) H) :
    FnG P w K mg base CX0 (k + 1) f fd ps sp := by
  obtain ⟨oc, od, kV, doc, pm, an, cdv, ct, osl, e, lk, h⟩ := F.ex
  subst e
  obtain ⟨o, fd', h1, h2, h3⟩ := hc
  rw [lk] at h1
  obtain rfl := Option.some.inj h1
  obtain rfl := Data.func.inj h2
  obtain rfl : cdv = .ref c := h3
  refine ⟨len, fun A outer s H args us vs Q E g hr e0 hb r hsp => ?_⟩
  refine LamX.run_ofS lk h S hr e0 hb r (len _ _ _ _ hsp) fun hr2 => ?_
  obtain ⟨t, h1, h2⟩ := body A outer s H vs Q E g hr2 hsp
  exact ⟨t, h1.nox, h2⟩
end Lk

set_option Elab.async false
set_option linter.all false
set_option maxRecDepth 100000
set_option maxHeartbeats 2000000
namespace Lk
open PySem PySem.Spec PyProof.Rows L2
/-! ### the end of a law with two tables of code objects, where no repr is under way -/
section
variable {P : Program} {w : World} {K : PySem.W.Frag} {mg mb : Str → Option Value} {CX : CXT} {k : Nat} {fa a c1 t1 c2 t2 : Addr} {fd : FuncData} {x : Str} {sp : Sp} {s₁ : Shared} {vs : List Value} {ns : List Int}
structure BeginM (P : Program) (w : World) (K : PySem.W.Frag) (H : Hp) (h : Heap) (a t1 t2 : Addr) : Prop where
  tab1 : H t1 = some (.tbl #[])
  tab2 : H t2 = some (.tbl #[])
  only : ∀ b, b ≠ t1 → b ≠ t2 → H b = none ∨ ∃ o xs, H b = some (.frz o xs)
  good : HOk P w H h
  one : ∀ b, H b ≠ none → b = a ∨ b = t1 ∨ b = t2
  out : H a ≠ none → K.lookup a = none
theorem BeginM.free {H : Hp} (B : BeginM P w K H s₁.heap a t1 t2) (ha : s₁.heap.get? a = some { cls := .type "list", data := .seq vs.toArray }) (ht1 : s₁.heap.get? t1 = some tabO) (ht2 : s₁.heap.get? t2 = some tabO) {b : Addr} {o : Obj} (e : s₁.heap.get? b = some o) (n1 : ∀ v n, o.data ≠ .seq v n) (n2 : o.data ≠ .fields #[]) : H b = none := by
  cases q : H b with
  | none => rfl
  | some u =>
    rcases B.one b (by rw [q]; exact fun y => nomatch y) with z | z | z
    · subst z
      rw [ha] at e
      obtain rfl := Option.some.inj e
      exact absurd rfl (n1 _ _)
    · subst z
      rw [ht1] at e
      obtain rfl := Option.some.inj e
      exact absurd rfl n2
    · subst z
      rw [ht2] at e
      obtain rfl := Option.some.inj e
      exact absurd rfl n2
theorem BeginM.sees {H : Hp} (B : BeginM P w K H s₁.heap a t1 t2) (ha : s₁.heap.get? a = some { cls := .type "list", data := .seq vs.toArray }) (ht1 : s₁.heap.get? t1 = some tabO) (ht2 : s₁.heap.get? t2 = some tabO) {b : Addr} {m : Str → Option Value} (n : s₁.heap.Ns b m) : (hidT s₁.heap H).Ns b m := by
  obtain ⟨o, es, ep, e, d, r⟩ := n
  refine ⟨o, es, ep, hidT_get e (B.free ha ht1 ht2 e (fun v n z => ?_) fun z => ?_), d, r⟩
  · rw [d] at z; exact nomatch z
  · rw [d] at z; exact nomatch z
theorem BeginM.keeps {H : Hp} (B : BeginM P w K H s₁.heap a t1 t2) (nt1 : K.lookup t1 = none) (nt2 : K.lookup t2 = none) (KX : K.In s₁.heap) : K.In (hidT s₁.heap H) := fun b o e => by
  refine hidT_get (KX b o e) ?_
  cases q : H b with
  | none => rfl
  | some u =>
    have y : H b ≠ none := by rw [q]; exact fun y => nomatch y
    rcases B.one b y with z | z | z
    · subst z
      rw [B.out y] at e
      exact nomatch e
    · subst z
      rw [nt1] at e
      exact nomatch e
    · subst z
      rw [nt2] at e
      exact nomatch e
theorem BeginM.table {H : Hp} {c t : Addr} (B : BeginM P w K H s₁.heap a t1 t2) (ha : s₁.heap.get? a = some { cls := .type "list", data := .seq vs.toArray }) (ht1 : s₁.heap.get? t1 = some tabO) (ht2 : s₁.heap.get? t2 = some tabO) (ht : s₁.heap.get? t = some tabO) (hc : PySem.W.CodeHd s₁.heap c t) (hns : s₁.heap.Ns mainGlobals mg)
    (hbm : ∃ (bm : Addr) (ob : Obj), mg "__builtins__" = some (.ref bm) ∧ bm ≠ builtinsNs ∧ s₁.heap.get? bm = some ob ∧ ob.cls = .type "module" ∧ ob.dict = some builtinsNs ∧ ob.data = .plain) : LamX.TabB (hidT s₁.heap H) mg c t := by
  obtain ⟨og, eg, ep, hg1, hg2, _⟩ := id hns
  refine ⟨?_, ?_, fun z => ?_⟩
  · obtain ⟨o, us, file, tf, flags, tg, inF, text, tt, e1, r1, r2, r3, rest⟩ := hc
    refine ⟨o, us, file, tf, flags, tg, inF, text, tt, hidT_get e1 (B.free ha ht1 ht2 e1 (fun v n z => ?_) fun z => ?_), r1, r2, r3, rest⟩
    · rw [r2] at z; exact nomatch z
    · rw [r2] at z
      obtain rfl := Data.fields.inj z
      exact nomatch r3
  · obtain ⟨m, om, m1, m2, m3, m4, m5, m6⟩ := hbm
    refine ⟨m, om, m1, m2, fun z => ?_, fun z => ?_, hidT_get m3 (B.free ha ht1 ht2 m3 (fun v n z => ?_) fun z => ?_), m4, m5, m6⟩
    · subst z
      rw [hg1] at m3
      obtain rfl := Option.some.inj m3
      rw [m6] at hg2; exact nomatch hg2
    · subst z
      rw [ht] at m3
      obtain rfl := Option.some.inj m3
      exact nomatch m6
    · rw [m6] at z; exact nomatch z
    · rw [m6] at z; exact nomatch z
  · rw [z, ht] at hg1
    obtain rfl := Option.some.inj hg1
    exact nomatch hg2
theorem BeginM.goes {H : Hp} (B : BeginM P w K H s₁.heap a t1 t2) (KX : K.In s₁.heap) (hns : s₁.heap.Ns mainGlobals mg) (hb : s₁.heap.Ns builtinsNs mb) (hbb : ∀ x : Str, x ≠ "__name__" → mb x = bootBuiltins x) (hlim : s₁.heap.NoLimit) (hg : s₁.gens = #[])
    (ha : s₁.heap.get? a = some { cls := .type "list", data := .seq vs.toArray }) (ht1 : s₁.heap.get? t1 = some tabO) (ht2 : s₁.heap.get? t2 = some tabO) (nt1 : K.lookup t1 = none) (nt2 : K.lookup t2 = none) (hc1 : PySem.W.CodeHd s₁.heap c1 t1) (hc2 : PySem.W.CodeHd s₁.heap c2 t2)
    (hbm : ∃ (bm : Addr) (ob : Obj), mg "__builtins__" = some (.ref bm) ∧ bm ≠ builtinsNs ∧ s₁.heap.get? bm = some ob ∧ ob.cls = .type "module" ∧ ob.dict = some builtinsNs ∧ ob.data = .plain) (hr : Room k callerA)
    (F : ∀ base : Heap, K.In base → base.Ns mainGlobals mg → LamX.TabB base mg c1 t1 → LamX.TabB base mg c2 t2 → FnG P w K mg base CX k fa fd [x] sp) (bind : ∀ (s : Shared) (u : Value), BindsTo s fd ⟨[u], []⟩ [(x, u)])
    (hsp : sp [.ref a] H (fun v _ => v = .bl true) fun _ _ _ => False) (hCX : ∀ H e s', CX [] H s₁ (fun _ _ _ => False) e s' → False) : codeAny (model P w) callerA (.call (.ref fa) ⟨[.ref a], []⟩) (Fine s₁) s₁ := by
  obtain ⟨mc, l1, l2⟩ := hlim
  have M : Mod K mg (hidT s₁.heap H) := ⟨B.keeps nt1 nt2 KX, B.sees ha ht1 ht2 hns, ⟨mb, B.sees ha ht1 ht2 hb, hbb⟩, mc, B.sees ha ht1 ht2 l1, l2⟩
  have e0 : Env0 P w K mg (hidT s₁.heap H) callerA [] s₁ H := by
    refine ⟨rfl, M, fun b o e => of_hidT e, ?_, trivial, fun b z => ?_, B.good, .of_eq hg⟩
    · rw [hidT_size]; exact Nat.le_refl _
    · exact nomatch (show b ∈ ([] : List Addr) from z)
  have go := (F _ (B.keeps nt1 nt2 KX) (B.sees ha ht1 ht2 hns) (B.table ha ht1 ht2 ht1 hc1 hns hbm) (B.table ha ht1 ht2 ht2 hc2 hns hbm)).run callerA [] s₁ H ⟨[.ref a], []⟩ [.ref a] [.ref a] _ _ rfl hr e0 (bind s₁ (.ref a)) (.cons rfl .nil) hsp
  refine codeAny_mono go fun r s' z => ?_
  match r, z with
  | .error e, z => exact (hCX H e s' z).elim
  | .ok .next, z => exact z.elim
  | .ok .brk, z => exact z.elim
  | .ok .cont, z => exact z.elim
  | .ok (.ret u), z =>
    obtain ⟨v, H', os, bare, un, good', rv, q⟩ := z
    obtain rfl : v = .bl true := q
    obtain rfl : u = Value.bool true := rv
    have stays : ∀ b o, b ≠ t1 → b ≠ t2 → s₁.heap.get? b = some o → s'.heap.get? b = some o := fun b o nb1 nb2 e => by
      rcases B.only b nb1 nb2 with y | ⟨ob, xs, y⟩
      · exact un.keep b o e y (fun t => nomatch (show b ∈ ([] : List Addr) from t)) (fun t => nomatch t)
      · have g1 := (B.good b _ y).1
        have g2 := (good' b _ (un.frzs b ob _ y)).1
        rw [e] at g1
        obtain rfl := Option.some.inj g1
        exact g2
    obtain ⟨more1, hm1⟩ := un.tbls t1 #[] B.tab1
    have hm1' : s'.heap.get? t1 = some { cls := .none, data := .fields (#[] ++ more1) } := good' t1 _ hm1
    obtain ⟨more2, hm2⟩ := un.tbls t2 #[] B.tab2
    have hm2' : s'.heap.get? t2 = some { cls := .none, data := .fields (#[] ++ more2) } := good' t2 _ hm2
    refine ⟨rfl, ⟨fun b o e => ?_, fun b o e => ?_⟩, os, bare⟩
    · by_cases z : b = t1
      · subst z
        rw [ht1] at e
        obtain rfl := Option.some.inj e
        exact .inr (.inl ⟨(hc1.tab ht1).isCodeTable, rfl, #[], more1, rfl, hm1'⟩)
      · by_cases z2 : b = t2
        · subst z2
          rw [ht2] at e
          obtain rfl := Option.some.inj e
          exact .inr (.inl ⟨(hc2.tab ht2).isCodeTable, rfl, #[], more2, rfl, hm2'⟩)
        · exact .inl (stays b o z z2 e)
    · by_cases z : b = t1
      · subst z; exact ⟨_, hm1'⟩
      · by_cases z2 : b = t2
        · subst z2; exact ⟨_, hm2'⟩
        · exact ⟨o, stays b o z z2 e⟩
theorem law_goM (KX : K.In s₁.heap) (hns : s₁.heap.Ns mainGlobals mg) (hb : s₁.heap.Ns builtinsNs mb) (hbb : ∀ x : Str, x ≠ "__name__" → mb x = bootBuiltins x) (hlim : s₁.heap.NoLimit) (hg : s₁.gens = #[])
    (ha : s₁.heap.get? a = some { cls := .type "list", data := .seq vs.toArray }) (ht1 : s₁.heap.get? t1 = some tabO) (ht2 : s₁.heap.get? t2 = some tabO) (nt1 : K.lookup t1 = none) (nt2 : K.lookup t2 = none) (ntt : t1 ≠ t2) (hc1 : PySem.W.CodeHd s₁.heap c1 t1) (hc2 : PySem.W.CodeHd s₁.heap c2 t2)
    (hbm : ∃ (bm : Addr) (ob : Obj), mg "__builtins__" = some (.ref bm) ∧ bm ≠ builtinsNs ∧ s₁.heap.get? bm = some ob ∧ ob.cls = .type "module" ∧ ob.dict = some builtinsNs ∧ ob.data = .plain) (hi : IntsAre vs ns) (hl : ns.length ≤ sizeLine) (hr : Room k callerA)
    (F : ∀ base : Heap, K.In base → base.Ns mainGlobals mg → LamX.TabB base mg c1 t1 → LamX.TabB base mg c2 t2 → FnG P w K mg base CX k fa fd [x] sp) (bind : ∀ (s : Shared) (u : Value), BindsTo s fd ⟨[u], []⟩ [(x, u)])
    (hsp : ∀ H : Hp, H t1 = some (.tbl #[]) → H t2 = some (.tbl #[]) → SqL K H a (ns.map V.int) → sp [.ref a] H (fun v _ => v = .bl true) fun _ _ _ => False) (hCX : ∀ H e s', CX [] H s₁ (fun _ _ _ => False) e s' → False) : codeAny (model P w) callerA (.call (.ref fa) ⟨[.ref a], []⟩) (Fine s₁) s₁ := by
  have vi := vals_ints hi
  have nat1 : a ≠ t1 := fun z => by
    rw [z, ht1] at ha
    exact nomatch congrArg Obj.data (Option.some.inj ha)
  have nat2 : a ≠ t2 := fun z => by
    rw [z, ht2] at ha
    exact nomatch congrArg Obj.data (Option.some.inj ha)
  by_cases hk : K.lookup a = none
  · let H : Hp := fun b => if b = t1 then some (.tbl #[]) else if b = t2 then some (.tbl #[]) else if b = a then some (.frz { cls := .type "list", data := .seq vs.toArray } (.lst (ns.map V.int))) else none
    have yt1 : H t1 = some (.tbl #[]) := if_pos rfl
    have yt2 : H t2 = some (.tbl #[]) := (if_neg ntt.symm).trans (if_pos rfl)
    have ya : H a = some (.frz { cls := .type "list", data := .seq vs.toArray } (.lst (ns.map V.int))) := (if_neg nat1).trans ((if_neg nat2).trans (if_pos rfl))
    have yb : ∀ b, b ≠ t1 → b ≠ t2 → b ≠ a → H b = none := fun b z1 z2 y => (if_neg z1).trans ((if_neg z2).trans (if_neg y))
    have B : BeginM P w K H s₁.heap a t1 t2 := by
      refine ⟨yt1, yt2, fun b n1 n2 => ?_, fun b u z => ?_, fun b z => ?_, fun _ => hk⟩
      · by_cases y : b = a
        · subst y; exact .inr ⟨_, _, ya⟩
        · exact .inl (yb b n1 n2 y)
      · by_cases n : b = t1
        · subst n
          rw [yt1] at z
          obtain rfl := Option.some.inj z
          exact ht1
        · by_cases n2 : b = t2
          · subst n2
            rw [yt2] at z
            obtain rfl := Option.some.inj z
            exact ht2
          · by_cases y : b = a
            · subst y
              rw [ya] at z
              obtain rfl := Option.some.inj z
              exact ⟨ha, by rw [List.length_map]; exact hl, vs, _, vi, ha⟩
            · rw [yb b n n2 y] at z; exact nomatch z
      · by_cases n : b = t1
        · exact .inr (.inl n)
        · by_cases n2 : b = t2
          · exact .inr (.inr n2)
          · by_cases y : b = a
            · exact .inl y
            · exact absurd (yb b n n2 y) z
    exact B.goes KX hns hb hbb hlim hg ha ht1 ht2 nt1 nt2 hc1 hc2 hbm hr F bind (hsp H yt1 yt2 (.inl (.inr ⟨_, ya⟩))) hCX
  · obtain ⟨o, ho⟩ := Option.ne_none_iff_exists'.mp hk
    have e := KX a o ho
    rw [ha] at e
    obtain rfl := Option.some.inj e
    let H : Hp := fun b => if b = t1 then some (.tbl #[]) else if b = t2 then some (.tbl #[]) else none
    have yt1 : H t1 = some (.tbl #[]) := if_pos rfl
    have yt2 : H t2 = some (.tbl #[]) := (if_neg ntt.symm).trans (if_pos rfl)
    have yb : ∀ b, b ≠ t1 → b ≠ t2 → H b = none := fun b z z2 => (if_neg z).trans (if_neg z2)
    have B : BeginM P w K H s₁.heap a t1 t2 := by
      refine ⟨yt1, yt2, fun b n1 n2 => .inl (yb b n1 n2), fun b u z => ?_, fun b z => ?_, fun z => absurd (yb a nat1 nat2) z⟩
      · by_cases n : b = t1
        · subst n
          rw [yt1] at z
          obtain rfl := Option.some.inj z
          exact ht1
        · by_cases n2 : b = t2
          · subst n2
            rw [yt2] at z
            obtain rfl := Option.some.inj z
            exact ht2
          · rw [yb b n n2] at z; exact nomatch z
      · by_cases n : b = t1
        · exact .inr (.inl n)
        · by_cases n2 : b = t2
          · exact .inr (.inr n2)
          · exact absurd (yb b n n2) z
    refine B.goes KX hns hb hbb hlim hg ha ht1 ht2 nt1 nt2 hc1 hc2 hbm hr F bind (hsp _ yt1 yt2 (.inr ⟨_, vs.toArray, _, ho, rfl, rfl, rfl, ?_, ?_⟩)) hCX
    · rw [List.size_toArray, hi.length]; exact hl
    · exact vi
end
theorem walk_goM {l : PySem.W.OpenLaw} {n k : Nat} {q : Program} {loose : List Str} {XP : (Str → Option Value) → Heap → Prop} {YP : World → Heap → Prop} {d : DefRec} {K : Params → PySem.W.Frag} {CX : CXT} {sp : Addr → Addr → PySem.W.Frag → Sp} {x y1 y2 : Str}
    (hn : l.most = some n) (hn2 : n ≤ sizeLine) (hdf : d.params.defaults = []) (hr : Room k callerA) (hrec1 : ((recsOf q).any fun e => e.name == y1) = true) (hrec2 : ((recsOf q).any fun e => e.name == y2) = true) (hY : ∀ (w : World) (h : Heap), YP w h → (K w.params).In h)
    (F : ∀ (w : World) (mg : Str → Option Value) (fa : Addr) (h : Heap), (K w.params).In h → h.Ns mainGlobals mg → mg d.name = some (.ref fa) →
      ∃ (fd : FuncData) (f1 c1 t1 f2 c2 t2 : Addr), mg y1 = some (.ref f1) ∧ TabAt (K w.params) f1 c1 t1 ∧ mg y2 = some (.ref f2) ∧ TabAt (K w.params) f2 c2 t2 ∧ t1 ≠ t2 ∧ (∀ (s : Shared) (u : Value), BindsTo s fd ⟨[u], []⟩ [(x, u)]) ∧ ∀ base : Heap, (K w.params).In base → base.Ns mainGlobals mg → LamX.TabB base mg c1 t1 → LamX.TabB base mg c2 t2 → FnG l.prog w (K w.params) mg base CX k fa fd [x] (sp t1 t2 (K w.params)))
    (hsp : ∀ (t1 t2 : Addr) (K : PySem.W.Frag) (H : Hp) (a : Addr) (ns : List Int), ns.length ≤ n → H t1 = some (.tbl #[]) → H t2 = some (.tbl #[]) → SqL K H a (ns.map V.int) → sp t1 t2 K [.ref a] H (fun v _ => v = .bl true) fun _ _ _ => False)
    (hCX : ∀ (H : Hp) (s : Shared) (e : Value) (s' : Shared), CX [] H s (fun _ _ _ => False) e s' → False) : PySem.W.WalkO q loose XP YP l.row.toRowW d [] (fun f vs => PySem.call f vs) := by
  refine Att.attach_call hn hdf fun w s₀ s₁ mg mb fa o pm cd doc a vs ns G Y ho hd hcd hmg hobj hints hlen hg => ?_
  have KX := hY w _ Y
  obtain ⟨fd, f1, c1, t1, f2, c2, t2, hf1, ⟨⟨o1, fd1, k1, k2, k3⟩, ⟨ec, dd, vc, sl, k4, k5⟩, nt1⟩, hf2, ⟨⟨o1', fd1', j1, j2, j3⟩, ⟨ec', dd', vc', sl', j4, j5⟩, nt2⟩, ntt, hb, hF⟩ := F w mg fa _ KX G.T.g hmg
  obtain ⟨dL, hm, nm⟩ := List.any_eq_true.mp hrec1
  obtain ⟨a', o', fd', c', P', u1, u2, u3, u4, u5, u6⟩ := G.T.tab dL hm
  rw [show dL.name = y1 from beq_iff_eq.mp nm, hf1] at u1
  obtain rfl := Value.ref.inj (Option.some.inj u1)
  rw [KX _ _ k1] at u2
  obtain rfl := Option.some.inj u2
  rw [k2] at u3
  obtain rfl := Data.func.inj u3
  rw [k3] at u4
  obtain rfl := Value.ref.inj u4
  obtain ⟨⟨oc, vo, x1, x2, x3, x4⟩, x5⟩ := id u6
  rw [KX _ _ k4] at x1
  obtain rfl := Option.some.inj x1
  obtain rfl := Data.fields.inj x3
  rw [k5] at x4
  obtain rfl := Value.ref.inj (Option.some.inj x4)
  obtain ⟨dL2, hm2, nm2⟩ := List.any_eq_true.mp hrec2
  obtain ⟨a2, o2, fd2, c2', P2, v1, v2, v3, v4, v5, v6⟩ := G.T.tab dL2 hm2
  rw [show dL2.name = y2 from beq_iff_eq.mp nm2, hf2] at v1
  obtain rfl := Value.ref.inj (Option.some.inj v1)
  rw [KX _ _ j1] at v2
  obtain rfl := Option.some.inj v2
  rw [j2] at v3
  obtain rfl := Data.func.inj v3
  rw [j3] at v4
  obtain rfl := Value.ref.inj v4
  obtain ⟨⟨oc2, vo2, z1, z2, z3, z4⟩, z5⟩ := id v6
  rw [KX _ _ j4] at z1
  obtain rfl := Option.some.inj z1
  obtain rfl := Data.fields.inj z3
  rw [j5] at z4
  obtain rfl := Value.ref.inj (Option.some.inj z4)
  exact law_goM KX G.T.g G.T.b G.T.builtins G.T.nolimit hg hobj x5 z5 nt1 nt2 ntt (PySem.W.CodeHd.of u5 u6) (PySem.W.CodeHd.of v5 v6) G.T.bmain hints (Nat.le_trans hlen hn2) hr hF hb (fun H h1 h2 hS => hsp t1 t2 (K w.params) H a ns hlen h1 h2 hS) fun H e s' => hCX H s₁ e s'
end Lk

set_option Elab.async false
set_option linter.all false
set_option maxRecDepth 100000
set_option maxHeartbeats 2000000
namespace Lk
open PySem PySem.Spec PyProof.Rows L2
/-! ### tuples: what comes stands at some place -/
section
variable {X : Cx}
def rCatS (K : PySem.W.Frag) : R2 := fun x y H Q => ∃ a b xs ys, x = .ref a ∧ y = .ref b ∧ SqT K H a xs ∧ SqT K H b ys ∧ xs.length + ys.length ≤ sizeLine ∧ ∀ p H', Same H H' → SqT K H' p (xs ++ ys) → Q (.ref p) H'
theorem op_catS : OpR X (binaryOp .Add) (rCatS X.K) := by
  intro pins s σ H x y v u Q I rx ry h
  obtain ⟨a, b, xs, ys, ex, ey, ha, hb, hz, q⟩ := h
  refine op_catA pins s σ H x y v u Q I rx ry ⟨a, b, xs, ys, ex, ey, ha, hb, hz, fun e => ?_, fun _ e => ?_, fun _ _ p hp => ?_⟩
  · subst e; exact q b H (Same.refl _) hb
  · subst e; exact q a H (Same.refl _) (by rw [List.append_nil]; exact ha)
  · exact q p _ (same_new hp _) (SqT.of upd_same)
def rSlS (K : PySem.W.Frag) : V → Option Int → Option Int → Hp → VK → Prop := fun x lo hi H Q => ∃ a xs, x = .ref a ∧ SqT K H a xs ∧ ∀ p H', Same H H' → SqT K H' p (cutV xs lo hi) → Q (.ref p) H'
theorem cut_whole {xs : List V} {lo hi : Option Int} (h : HT.sIx xs.length 0 lo = 0 ∧ HT.sIx xs.length xs.length hi = xs.length) : cutV xs lo hi = xs := by
  unfold cutV
  rw [h.1, h.2, List.drop_zero, Nat.sub_zero, List.take_length]
theorem sl_tupS : SlR X (rSlS X.K) := by
  intro pins s σ H x v vl vu lo hi sl Q I rx hs pl pu h
  obtain ⟨a, xs, ex, hx, q⟩ := h
  refine sl_tupA pins s σ H x v vl vu lo hi sl Q I rx hs pl pu ⟨a, xs, ex, hx, fun w => q a H (Same.refl _) ?_, fun _ p hp => q p _ (same_new hp _) (SqT.of upd_same)⟩
  rw [cut_whole w]; exact hx
theorem cut_hi {xs : List V} {n : Nat} : cutV xs none (some (n : Int)) = xs.take n := by
  unfold cutV
  have e1 : HT.sIx xs.length 0 none = 0 := by simp [HT.sIx]
  rw [e1, List.drop_zero, Nat.sub_zero]
  have e2 : HT.sIx xs.length xs.length (some (n : Int)) = min n xs.length := by
    simp only [HT.sIx]
    try split
    all_goals omega
  rw [e2]
  by_cases h : n ≤ xs.length
  · rw [Nat.min_eq_left h]
  · rw [Nat.min_eq_right (by omega), List.take_length, List.take_of_length_le (by omega)]
theorem cut_lo {xs : List V} {n : Nat} : cutV xs (some (n : Int)) none = xs.drop n := by
  unfold cutV
  have e1 : HT.sIx xs.length xs.length none = xs.length := by simp [HT.sIx]
  have e2 : HT.sIx xs.length 0 (some (n : Int)) = min n xs.length := by
    simp only [HT.sIx]
    try split
    all_goals omega
  rw [e1, e2]
  by_cases h : n ≤ xs.length
  · rw [Nat.min_eq_left h, List.take_of_length_le (by rw [List.length_drop]; omega)]
  · rw [Nat.min_eq_right (by omega), List.drop_length, List.drop_of_length_le (by omega), List.take_nil]
/-! ### (z,) * k -/
theorem mul_self (l : Addr) (items : Array Value) (n : Nat) (dd : Option Addr) (sl : Array (Option Value)) (u : Tok) :
    Meets (Builtin.«tuple.__mul__» ⟨[.ref l, .int 1 u], []⟩) (fun _ R s => s.heap.get? l = some { cls := .type "tuple", dict := dd, data := .seq items n, slots := sl } ∧ R (.ok (.ret (Value.ref l))) s) :=
  .of_wp fun prog w A R s h => by
    obtain ⟨hp, g, d, tk, os⟩ := s
    obtain ⟨hl, h⟩ := h
    have f1 := AutoSeq1.idx_int
    wp_walk using wpAny_loadPart' hl
    all_goals first | exact ⟨_, rfl, h⟩ | trace_state
theorem mul_nought (l : Addr) (items : Array Value) (n : Nat) (dd : Option Addr) (sl : Array (Option Value)) (u : Tok) (ne : items.isEmpty = false) :
    Meets (Builtin.«tuple.__mul__» ⟨[.ref l, .int 0 u], []⟩) (fun _ R s => s.heap.get? l = some { cls := .type "tuple", dict := dd, data := .seq items n, slots := sl } ∧
      R (.ok (.ret (Value.ref s.heap.objs.size))) { s with heap := s.heap.push { cls := Value.type "tuple", data := Data.seq #[] }, toks := s.toks }) :=
  .of_wp fun prog w A R s h => by
    obtain ⟨hp, g, d, tk, os⟩ := s
    obtain ⟨hl, h⟩ := h
    have f1 := AutoSeq1.idx_int
    have c1 : (items.isEmpty || (0 : Int) == 1) = false := by rw [ne]; rfl
    wp_walk using wpAny_loadPart' hl
    repeat (first
      | (refine wpAny_ite_false (decide_eq_false (by rw [c1]; exact Bool.false_ne_true)) ?_; wp_walk using wpAny_loadPart' hl))
    all_goals first | exact ⟨_, rfl, h⟩ | trace_state
/-- (z,) * k -/
def rRepS (K : PySem.W.Frag) : R2 := fun x y H Q => ∃ l k z, x = .ref l ∧ y = .int k ∧ SqT K H l [z] ∧ 0 ≤ k ∧ k ≤ 1000 ∧ ∀ p H', Same H H' → SqT K H' p (List.replicate k.toNat z) → Q (.ref p) H'
theorem rep_one (z : V) : ∀ n, (List.replicate n [z]).flatten = List.replicate n z
  | 0 => rfl
  | n + 1 => by rw [List.replicate_succ, List.flatten_cons, rep_one z n]; rfl
theorem op_repS : OpR X (binaryOp .Mult) (rRepS X.K) := by
  intro pins s σ H x y v u Q I rx ry h
  obtain ⟨l, k, z, ex, ey, hT, h0, h1, q⟩ := h
  by_cases c : 2 ≤ k
  · refine op_repT pins s σ H x y v u Q I rx ry ⟨l, k, [z], ex, ey, hT, (fun e => nomatch e), c, h1, (by show 1 ≤ 1000; decide), fun p hp => ?_⟩
    rw [rep_one]
    exact q p _ (same_new hp _) (SqT.of upd_same)
  subst ex ey
  obtain rfl : v = Value.ref l := rx
  obtain ⟨t, rfl⟩ := ry
  obtain ⟨its, r, ⟨⟨cls, dd, data, sl⟩, ho, hc, n, hd⟩, hs⟩ := I.tuple hT
  simp only at hc hd
  subst hc hd
  have hn : its.toArray.isEmpty = false := by
    cases r with
    | cons a b => rfl
  rcases (by omega : k = 0 ∨ k = 1) with e | e
  · subst e
    refine wpAny_binaryOp_repeat_ref (T := "tuple") (U := "int") (by decide) ⟨_, ho, rfl⟩ (fun s' => typeIs_int s' 0 t) noFill_tuple_mul F.fills_int_mul F.slot_int_rmul repeat_tuple F.slot_int_index.lookup
      (call_meets F.slot_int_rmul (typeIs_int s 0 t) F.entry_int_rmul (F.args_int_rmul_2 _ _) (int_rmul_tuple 0 t l its.toArray n dd sl)
        ⟨ho, rfl, ⟨_, ho, rfl⟩, call_meets F.slot_tuple_mul ⟨_, ho, rfl⟩ F.entry_tuple_mul (F.args_tuple_mul_2 _ _) (mul_nought l its.toArray n dd sl t hn) ⟨ho, ?_⟩⟩)
    refine ⟨.ref s.heap.objs.size, _, I.laid (t' := s.toks) (o := .tup []) (fun b ob q => Heap.get?_push_of_some _ q) (Nat.le_refl _) ?_, rfl, q _ _ (same_new (I.hok.fresh (Nat.le_refl _)) _) (SqT.of upd_same)⟩
    exact ⟨by decide, [], .nil, IsTup.new _ _⟩
  · subst e
    refine wpAny_binaryOp_repeat_ref (T := "tuple") (U := "int") (by decide) ⟨_, ho, rfl⟩ (fun s' => typeIs_int s' 1 t) noFill_tuple_mul F.fills_int_mul F.slot_int_rmul repeat_tuple F.slot_int_index.lookup
      (call_meets F.slot_int_rmul (typeIs_int s 1 t) F.entry_int_rmul (F.args_int_rmul_2 _ _) (int_rmul_tuple 1 t l its.toArray n dd sl)
        ⟨ho, rfl, ⟨_, ho, rfl⟩, call_meets F.slot_tuple_mul ⟨_, ho, rfl⟩ F.entry_tuple_mul (F.args_tuple_mul_2 _ _) (mul_self l its.toArray n dd sl t) ⟨ho, ?_⟩⟩)
    exact ⟨.ref l, H, I, rfl, q l H (Same.refl _) hT⟩
/-! ### any of a tuple of ints -/
def rAnyT (K : PySem.W.Frag) : List V → Hp → VK → Prop := fun vs H Q => ∃ (a : Addr) (ns : List Int), vs = [V.ref a] ∧ SqT K H a (iV ns) ∧ Q (.bl (ns.any (· != 0))) H
theorem truth_ints {prog : Program} {w : World} {A : Around} {ns : List Int} {its : List Value} (r : Vals (iV ns) its) :
    TruthOf prog w A (fun i v => its.toArray[i]? = some v) (fun i => ns.getD i 0 != 0) := fun i v s Q E hv hq => by
  have hv' : its[i]? = some v := by simpa using hv
  have hlt : i < (iV ns).length := by
    rw [r.length]
    exact (List.getElem?_eq_some_iff.mp hv').1
  obtain ⟨n, hn, hy⟩ := iV_get (List.getElem?_eq_getElem hlt)
  obtain ⟨u, e, ru⟩ := r.get (List.getElem?_eq_getElem hlt)
  rw [hv'] at e
  obtain rfl := Option.some.inj e
  rw [hy] at ru
  obtain ⟨t, rfl⟩ := ru
  have hg : ns.getD i 0 = n := by rw [List.getD_eq_getElem?_getD, hn] <;> rfl
  have hq' : Q (ns.getD i 0 != 0) s := hq
  rw [hg] at hq'
  exact PySem.P.truthy_int hq'
theorem any_turns (ns : List Int) : (List.range ns.length).any (fun i => ns.getD i 0 != 0) = ns.any (· != 0) := by
  rw [Bool.eq_iff_iff, List.any_eq_true, List.any_eq_true]
  constructor
  · rintro ⟨i, hi, h⟩
    have hi' : i < ns.length := List.mem_range.mp hi
    refine ⟨ns[i], List.getElem_mem hi', ?_⟩
    rw [List.getD_eq_getElem?_getD, List.getElem?_eq_getElem hi'] at h
    exact h
  · rintro ⟨x, hx, h⟩
    obtain ⟨i, hi, rfl⟩ := List.getElem_of_mem hx
    refine ⟨i, List.mem_range.mpr hi, ?_⟩
    rw [List.getD_eq_getElem?_getD, List.getElem?_eq_getElem hi]
    exact h
theorem cr_anyT (hc : X.calm = true) : CallR X (.builtin "any") (rAnyT X.K) := by
  intro pins s σ H vs us Q I r h
  obtain ⟨a, ns, rfl, hs, q⟩ := h
  obtain ⟨its, rv, ht, _⟩ := I.tuple hs
  rw [Vals.ref1 r]
  have hlt : a < s.heap.objs.size := by obtain ⟨_, e, _⟩ := ht; exact Heap.lt_size e
  refine call_any_walk (wpAny_pyIter_tuple ht ?_)
  have hne : a ≠ s.heap.objs.size := Nat.ne_of_lt hlt
  refine ⟨_, _, _, _, _, _, _, rfl, Walks.tuple (A := X.A.in1) (I.ok.hd hc) _ a hne its.toArray, ⟨⟨_, Heap.get?_push_size _ rfl, rfl, rfl⟩, ht.push _⟩, truth_ints rv, fun h' tk hk => ?_⟩
  refine ⟨.bl _, H, I.kept fun b o eo => hk b o (fun m => ?_) (Heap.get?_push_of_some _ eo), ?_, q⟩
  · have e1 := List.mem_singleton.mp m
    exact absurd (e1 ▸ Heap.lt_size eo) (Nat.lt_irrefl _)
  · show Value.bool _ = Value.bool _
    rw [← any_turns, List.size_toArray, ← rv.length, iV_len]
end
theorem walk_zipT {K : PySem.W.Frag} {a b : Addr} {xs ys : List V} {n : Nat} (hn : n = min xs.length ys.length) : Walk (RZ.ItzT K a b) n (fun H => SqT K H a xs ∧ SqT K H b ys) (YPair (fun i => xs[i]?) (fun i => ys[i]?)) where
  goes i H hi q := by
    subst hn
    exact ⟨xs, ys, xs[i]'(by omega), ys[i]'(by omega), q.1, q.2, by simp, by simp⟩
  stops H q := ⟨xs, ys, q.1, q.2, by omega⟩
  yields i H v H' _ q y := by
    obtain ⟨T, x, z, e, f, g, hx, hy⟩ := y
    exact ⟨T, x, z, e, f, g, hx xs q.1, hy ys q.2⟩
end Lk

set_option Elab.async false
set_option linter.all false
set_option maxRecDepth 100000
set_option maxHeartbeats 2000000
namespace Lk
open PySem PySem.Spec PyProof.Rows L2
/-! ### the layer's rules with the written part named: within a comprehension's element -/
section
variable {X : Cx} {K : PySem.W.Frag}
theorem ix_tupK (e : X.K = K) : IxR X (rIxT K) := e ▸ ix_tup
theorem ix_listK (e : X.K = K) : IxR X (rIxL K) := e ▸ ix_list
theorem pi_tupK {tg l : Expr} {tl : TE} (e : X.K = K) (h : PE X l tl) : PI X tg l (iTup K tl) := e ▸ pi_tup h
theorem pi_listK {tg l : Expr} {tl : TE} (e : X.K = K) (h : PE X l tl) : PI X tg l (iList K tl) := e ▸ pi_list h
theorem cr_sumK (e : X.K = K) (hc : X.calm = true) : CallR X (.builtin "sum") (rSum K) := e ▸ cr_sum hc
theorem cr_maxK (e : X.K = K) (hc : X.calm = true) : CallR X (.builtin "max") (rMax K) := e ▸ cr_max hc
theorem cr_minK (e : X.K = K) (hc : X.calm = true) : CallR X (.builtin "min") (rMin K) := e ▸ cr_min hc
theorem cr_allK (e : X.K = K) (hc : X.calm = true) : CallR X (.builtin "all") (rAll K) := e ▸ cr_all hc
theorem cr_anyK (e : X.K = K) (hc : X.calm = true) : CallR X (.builtin "any") (rAny K) := e ▸ cr_any hc
def rLenS (K : PySem.W.Frag) : List V → Hp → VK → Prop := fun xs H Q => ∃ p ys, xs = [.ref p] ∧ (SqL K H p ys ∨ SqT K H p ys) ∧ Q (.int ys.length) H
theorem call_lenK (e : X.K = K) : CallR X (.builtin "len") (rLenS K) := e ▸ call_len_seq
theorem call_isiK (e : X.K = K) : CallR X (.builtin "isinstance") (rIsi K) := e ▸ call_isi
theorem op_inK (e : X.K = K) : OpR X (compareOp .In) (rIn K false) := e ▸ op_in_seq
theorem op_notInK (e : X.K = K) : OpR X (compareOp .NotIn) (rIn K true) := e ▸ op_notIn_seq
theorem op_eqDK (e : X.K = K) (hu : X.A.units + 64 < cLine) : OpR X (compareOp .Eq) (rEqD K) := e ▸ op_eqD hu
theorem op_neDK (e : X.K = K) (hu : X.A.units + 64 < cLine) : OpR X (compareOp .NotEq) (rNeD K) := e ▸ op_neD hu
theorem op_catK (e : X.K = K) : OpR X (binaryOp .Add) (rCatS K) := e ▸ op_catS
theorem op_repK (e : X.K = K) : OpR X (binaryOp .Mult) (rRepS K) := e ▸ op_repS
theorem sl_tupK (e : X.K = K) : SlR X (rSlS K) := e ▸ sl_tupS
end
end Lk

set_option Elab.async false
set_option linter.all false
set_option maxRecDepth 100000
set_option maxHeartbeats 2000000
namespace Lk
open PySem PySem.Spec PyProof.Rows L2
section
variable {X : Cx}
/-- list(o.values()) -/
def tListVals (td : TE) : TE := fun σ H Q => td σ H fun x H1 => ∃ a kvs, x = V.ref a ∧ H1 a = some (.dK kvs) ∧ ∀ p, H1 p = none → Q (.ref p) (upd H1 p (.lst (kvs.map (·.2))))
variable {o : Expr} {p pos apos mpos : Pos} {td : TE}
theorem pe_listVals (hc : X.calm = true) (hg : Gl X "list") (hm : X.mg "list" = none) (hd : PE X o td) (hbase : attributeBase o "values" X.env (eval o X.env) = eval o X.env := by rfl) (hline : (apos.endLine == mpos.line) = true := by rfl)
    (hse : starEach [Expr.Call (.Attribute o "values" apos) [] [] mpos] X.env = [(false, eval (Expr.Call (.Attribute o "values" apos) [] [] mpos) X.env)] := by rfl) :
    PE X (.Call (.Name "list" p) [.Call (.Attribute o "values" apos) [] [] mpos] [] pos) (tListVals td) := by
  refine ⟨fun pins s σ H Q I h => ?_⟩
  refine wpAny_Call_Name_kw (ld_blt I hg hm (u := .type "list") (by first | rfl | decide +kernel) ?_ (by first | decide +kernel | decide) (by first | decide +kernel | decide))
  rw [hse]
  refine PySem.callWith_type1 (wpAny_Call_method0_late hbase hline (thn (hd.run pins s σ H _ I h) fun v s1 ⟨x, H1, I1, r1, a, kvs, ex, ha, q⟩ => ?_))
  subst ex
  obtain rfl : v = Value.ref a := r1
  obtain ⟨hz, hsys, vs, rel, dof⟩ := dk_of I1.hok ha
  obtain ⟨ep, dat⟩ := dof.dictAt
  have dat' := dat
  obtain ⟨ob, es, ho, ex, hdat, hko, hpr, hnd⟩ := dat'
  refine ⟨"dict", "dict.values", F.plainAttrs_dict, F.slot_dict_values, F.type_dict_values, ⟨ob, ho, ex.1⟩, fun b e => ?_, Calls.callWith_builtin rfl (PySem.evalArgs_none ?_)⟩
  · cases e
    exact ⟨ob, ho, ex.2.1⟩
  refine call_meetsIn F.slot_dict_values ⟨ob, ho, ex.1⟩ F.entry_dict_values (F.args_dict_values_1 _) (meets_dict_values (mixKind X.prog X.w) a hsys) ⟨⟨vs, dof⟩, ?_⟩
  have k1 : ∀ b u, s1.heap.get? b = some u → (s1.heap.push { cls := .type "dict_values", data := .fields #[.ref a] }).get? b = some u := fun b u e => Heap.get?_push_of_some _ e
  have dat1 : (s1.heap.push { cls := .type "dict_values", data := .fields #[.ref a] }).DictAt (mixKind X.prog X.w) a vs ep := dat.keep k1
  have I2 : Inv X pins σ H1 { s1 with heap := s1.heap.push { cls := .type "dict_values", data := .fields #[.ref a] } } := I1.kept (t' := s1.toks) k1
  have hl : kvs.length = vs.length := Paired.length rel
  refine PySem.W.kdl_call (r := s1.heap.objs.size) (PySem.W.kdl_values (knd := mixKind X.prog X.w) (kvs := vs) (ep := ep)) (I1.ok.hd hc) ⟨⟨_, Heap.get?_push_size _ rfl, rfl, rfl⟩, dat1⟩ (by rw [← hl]; exact hz) fun h' tk acc' c' hkeep hS hacc => ?_
  refine ⟨.ref _, upd H1 (s1.heap.push { cls := .type "dict_values", data := .fields #[.ref a] }).objs.size (.lst (kvs.map (·.2))), I2.laid hkeep (Nat.le_refl _) (show ObjOk X.prog X.w _ _ _ (.lst (kvs.map (·.2))) from ⟨?_, acc'.toList, c', ?_, ?_⟩), rfl, q _ (I2.hok.fresh (Nat.le_refl _))⟩
  · rw [List.length_map]; exact hz
  · have el : acc'.toList.length = acc'.size := by simp
    refine vals_of_at (by rw [List.length_map, el, hacc.1, hl]) fun j x w h1 h2 => ?_
    obtain ⟨k, hk⟩ := hacc.2 j w (by rw [← Array.getElem?_toList]; exact h2)
    obtain ⟨y, e1, e2⟩ := KV.at' rel hk
    rw [List.getElem?_map, e1] at h1
    cases h1
    exact e2
  · rw [Array.toArray_toList]; exact hS
/-- o.remove(e), by data: the first item that is equal is gone -/
def rRemD (K : PySem.W.Frag) : V → List V → Hp → VK → Prop := fun x vs H Q => ∃ (l : Addr) (xs : List V) (ds : List PyData) (y : V) (d : PyData) (j : Nat), x = .ref l ∧ vs = [y] ∧ H l = some (.lst xs) ∧ DpAll K H xs ds ∧ Dp K H y d ∧
  PyData.plainAll ds = true ∧ d.plain = true ∧ min (PyData.depthAll ds) d.depth ≤ 60 ∧ (ds.findIdx? fun z => PyData.eqv z d) = some j ∧ Q .non (upd H l (.lst (xs.eraseIdx j)))
theorem mt_removeD (hu : X.A.units + 65 < cLine) : MtM X "list.remove" (rRemD X.K) := by
  intro pins s σ H x vs v us Q I rx rv h
  obtain ⟨l, xs, ds, y, d, j, rfl, rfl, hH, hx, hy, p1, p2, p3, hj, q⟩ := h
  cases rx
  obtain ⟨u, rfl, ru⟩ := vals1 rv
  obtain ⟨z, its, n, r, hl, e⟩ := I.lstM hH
  obtain ⟨as, r1⟩ := Dp.readsAll I ds xs its hx r
  obtain ⟨bs, r2⟩ := Dp.reads I d y u hy ru
  have hsz : its.toArray.size ≤ sizeLine := by rw [List.size_toArray, ← hl]; exact z
  refine SeqAt.remove_list_data (l := l) (vs := its.toArray) (xs := ds) (x := u) (d := d) (j := j) ⟨_, e, rfl, n, rfl⟩ (by simpa using r1) r2 p1 p2 (by omega) hj hsz ?_
  refine ⟨.non, _, I.lset (its' := its.eraseIdx j) hH e ?_ (r.eraseIdx j) ?_, rfl, q⟩
  · show its.toArray.eraseIdxIfInBounds j = (its.eraseIdx j).toArray
    rw [List.eraseIdxIfInBounds_toArray]
  · have := len_erase xs j
    omega
end
end Lk

set_option Elab.async false
set_option linter.all false
set_option maxRecDepth 100000
set_option maxHeartbeats 2000000
namespace Lk
open PySem PySem.Spec PyProof.Rows L2
mutual
def noL : PyData → Bool
  | .list _ => false
  | .dict _ => false
  | .tuple ds => noLs ds
  | _ => true
def noLs : List PyData → Bool
  | [] => true
  | d :: ds => noL d && noLs ds
end
theorem seqT_off {K : PySem.W.Frag} {H : Hp} {a l : Addr} {xs ys : List V} (h : SqT K H a xs) (hl : H l = some (.lst ys)) : SqT K (del H l) a xs := by
  rcases h with (h | ⟨o, h⟩) | h
  · have n : a ≠ l := fun z => by rw [z, hl] at h; cases h
    exact .inl (.inl (by rw [del_ne n]; exact h))
  · have n : a ≠ l := fun z => by rw [z, hl] at h; cases h
    exact .inl (.inr ⟨o, by rw [del_ne n]; exact h⟩)
  · exact .inr h
mutual
theorem dp_off {K : PySem.W.Frag} {H : Hp} {l : Addr} {ys : List V} (hl : H l = some (.lst ys)) : ∀ {v : V} {d : PyData}, noL d = true → Dp K H v d → Dp K (del H l) v d
  | _, _, _, .non => .non
  | _, _, _, .bl b => .bl b
  | _, _, _, .int i => .int i
  | _, _, _, .str x => .str x
  | _, _, n, .lst h a => nomatch n
  | _, _, n, .tup h a => .tup (seqT_off h hl) (dpAll_off hl n a)
theorem dpAll_off {K : PySem.W.Frag} {H : Hp} {l : Addr} {ys : List V} (hl : H l = some (.lst ys)) : ∀ {vs : List V} {ds : List PyData}, noLs ds = true → DpAll K H vs ds → DpAll K (del H l) vs ds
  | _, _, _, .nil => .nil
  | _, _, n, .cons a b => .cons (dp_off hl (Bool.and_eq_true_iff.mp n).1 a) (dpAll_off hl (Bool.and_eq_true_iff.mp n).2 b)
end
theorem same_off {H H' : Hp} {p : Addr} (e : Same H H') (h : H p = none) : Same H (del H' p) := fun b o q => by
  rw [del_ne (ne_of_none q h)]; exact e b o q
theorem dpAll_app {K : PySem.W.Frag} {H : Hp} : ∀ {vs : List V} {ds : List PyData} {v : V} {d : PyData}, DpAll K H vs ds → Dp K H v d → DpAll K H (vs ++ [v]) (ds ++ [d])
  | _, _, _, _, .nil, h => .cons h .nil
  | _, _, _, _, .cons a b, h => .cons a (dpAll_app b h)
theorem dp_ints {K : PySem.W.Frag} {H : Hp} : ∀ ws : List Int, DpAll K H (iV ws) (ws.map .int)
  | [] => .nil
  | w :: r => .cons (.int w) (dp_ints r)
theorem iV_take (ws : List Int) (n : Nat) : (iV ws).take n = iV (ws.take n) := by unfold iV; rw [List.map_take]
theorem iV_drop (ws : List Int) (n : Nat) : (iV ws).drop n = iV (ws.drop n) := by unfold iV; rw [List.map_drop]
end Lk

set_option Elab.async false
set_option linter.all false
set_option maxRecDepth 100000
set_option maxHeartbeats 4000000
namespace Lk
open PySem PySem.Spec PyProof.Rows L2
/-! ### enumerate of a tuple -/
def itO (t : Addr) : Obj := { cls := .type "tuple_iterator", data := .fields #[.ref t, .int 0 0] }
def enO (n : Addr) : Obj := { cls := .type "enumerate", data := .fields #[.none, .bool false, .ref n, rawInt 0, .none, .none] }
set_option maxHeartbeats 2000000 in
theorem meets_enumT (t : Addr) (items : Array Value) :
    Meets (Builtin.«enumerate.__new__» ⟨[.type "enumerate", .ref t], []⟩) (fun _ R s => s.heap.IsTuple t items ∧ R (.ok (.ret (.ref (s.heap.push (itO t)).objs.size))) { s with heap := (s.heap.push (itO t)).push (enO s.heap.objs.size) }) :=
  .of_wp fun prog w A R s h => by
    obtain ⟨hp, g, d, tk, os⟩ := s
    obtain ⟨ht, h⟩ := h
    have kind := sub_enumerate
    have go : ∀ {A' : Around} {E : Value → Shared → Prop} {Q : Value → Shared → Prop}, Q (.ref hp.objs.size) ⟨hp.push (itO t), g, d, tk, os⟩ → wpAny (model prog w) A' (pyIter (.ref t)) Q E ⟨hp, g, d, tk, os⟩ :=
      fun q => (begins_tuple t items).iter prog w _ _ ⟨hp, g, d, tk, os⟩ _ ht q
    wp_walk using go
    refine wpAny_stack_any fun st => wpAny_pure ?_
    split
    · rename_i c _ _ _ _ _
      cases (c == Value.type "enumerate")
      all_goals
        wp_walk using go
        exact ⟨_, rfl, h⟩
    · wp_walk using go
      exact ⟨_, rfl, h⟩
theorem call_enumT {prog : Program} {w : World} {A : Around} {E : Value → Shared → Prop} {s : Shared} {t : Addr} {items : Array Value} {Q : Value → Shared → Prop} (ht : s.heap.IsTuple t items)
    (h : ∀ h', IsEnum h' (s.heap.objs.size + 1) s.heap.objs.size 0 .none → h'.get? s.heap.objs.size = some (itO t) → (∀ b o, s.heap.get? b = some o → h'.get? b = some o) → Q (.ref (s.heap.objs.size + 1)) { s with heap := h' }) :
    wpAny (model prog w) A (call (.type "enumerate") [.ref t]) Q E s := by
  refine callType_new F.called_enumerate (by decide) (F.typeCall_enumerate_1 _) (F.newCall_enumerate_1 _) (fun obj => F.args_object_init_2 obj _) F.entry_enumerate_new (meets_enumT t items) ⟨ht, ?_⟩
  have z : (s.heap.push (itO t)).objs.size = s.heap.objs.size + 1 := Heap.size_push ..
  have e : IsEnum ((s.heap.push (itO t)).push (enO s.heap.objs.size)) (s.heap.objs.size + 1) s.heap.objs.size 0 .none := by
    have y := Heap.get?_push_size (s.heap.push (itO t)) (o := enO s.heap.objs.size) rfl
    rw [z] at y
    exact y
  show _ ∧ _
  rw [z]
  exact ⟨⟨_, e, rfl⟩, h _ e (Heap.get?_push_of_some _ (Heap.get?_push_size _ rfl)) fun b o x => Heap.get?_push_of_some _ (Heap.get?_push_of_some _ x)⟩
def IteT (K : PySem.W.Frag) (a : Addr) : It :=
  ⟨fun i H => ∃ (xs : List V) (x : V), SqT K H a xs ∧ xs[i]? = some x, fun i H v H' => ∃ T x, v = .ref T ∧ H T = none ∧ H' = upd H T (.tup [.int (i : Nat), x]) ∧ ∀ xs, SqT K H a xs → xs[i]? = some x, fun i H => ∃ xs : List V, SqT K H a xs ∧ xs.length ≤ i⟩
theorem turn_enumT {P : Program} {w : World} {K : PySem.W.Frag} {elts : List Expr} {kk : Nat} {tpos : Pos} (a e it : Addr) :
    Turn P w K (.Tuple elts kk tpos) (IteT K a) [e, it] e (fun i h => (∃ old, IsEnum h e it ((i : Nat) : Int) old) ∧ h.IsTupleIter it a i ∧ e ≠ it) where
  mem := by simp
  obj := fun i h st b hb => by
    obtain ⟨⟨old, he⟩, ⟨o, ho, hc, hd⟩, _⟩ := st
    rcases (by simpa using hb : b = e ∨ b = it) with z | z
    · rw [z]; exact ⟨_, he, fun v q => nomatch q⟩
    · rw [z]; exact ⟨o, ho, fun v q => by rw [hd] at q; cases q⟩
  keep := fun i h h' st k => let ⟨⟨old, he⟩, hi, hne⟩ := st; ⟨⟨old, k e (by simp) _ he⟩, hi.at fun o q => k it (by simp) o q, hne⟩
  item := by
    rintro X rfl rfl rfl hc i pins s σ H E I hf ⟨⟨old, he⟩, hit, hne⟩ ⟨xs, x, hq, hx⟩
    obtain ⟨its, rv, p, hz⟩ := I.tuple hq
    obtain ⟨u, hu, ru⟩ := rv.get hx
    have hel : e < s.heap.objs.size := Heap.lt_size he
    have hil : it < s.heap.objs.size := by obtain ⟨_, q, _⟩ := hit; exact Heap.lt_size q
    have nea : e ≠ a := fun z => by
      obtain ⟨o, ho, c1, _⟩ := p
      rw [← z, he] at ho
      cases ho
      exact absurd (Value.type.inj c1) (by decide)
    have nia : a ≠ it := fun z => by
      obtain ⟨o, ho, c1, _⟩ := p
      obtain ⟨o2, ho2, c2, _⟩ := hit
      rw [z, ho2] at ho
      cases ho
      rw [c1] at c2
      exact absurd (Value.type.inj c2) (by decide)
    have lt : i < its.toArray.size := by rw [List.size_toArray]; exact (List.getElem?_eq_some_iff.mp hu).1
    refine wpAny_pyNext_enum_itemD (Draws.tuple (A := X.A.in1) (I.ok.hd hc) it a nia its.toArray) he ⟨hit, p⟩ lt hne (by simp [hne, nea]) fun y h' tk hP ho hs hT hsz hk => ?_
    obtain ⟨hit', p'⟩ := hs
    obtain rfl : u = y := by
      have z : its[i]? = some y := by simpa using hP
      rw [hu] at z
      exact Option.some.inj z
    refine ⟨_, rfl, wpAny_letOwnedTupleGo_enum (s := { s with heap := h', toks := tk + 1 }) ho fun h'' he' sb => ?_⟩
    have hT2 : h''.get? s.heap.objs.size = some { cls := .type "tuple", data := .seq #[.int i tk, u] } := (sb.2 _ (Nat.ne_of_gt hel)).trans hT
    have new : ObjOk X.prog X.w (upd H s.heap.objs.size (.tup [.int (i : Nat), x])) h'' s.heap.objs.size (.tup [.int (i : Nat), x]) :=
      ⟨by show 2 ≤ sizeLine; decide, [.int i tk, u], .cons ⟨_, rfl⟩ (.cons ru .nil), ⟨_, hT2, rfl, _, rfl⟩⟩
    have I1 : Inv X pins σ (upd H s.heap.objs.size (.tup [.int (i : Nat), x])) { s with heap := h'', toks := tk + 1 } :=
      I.turnedNew (ch := [e, it]) (fun b ob hb q => (sb.2 b (fun z => hb (by simp [z]))).trans (hk b ob (fun z => hb (by simp [z])) (fun z => hb (by simp [z])) q)) hf (Nat.le_refl _) new
    refine ⟨.ref s.heap.objs.size, _, I1, rfl, ⟨_, x, rfl, I.hok.fresh (Nat.le_refl _), rfl, fun ys hy => by rw [I.tuple_inj hy hq]; exact hx⟩, ⟨⟨u, ?_⟩, hit'.at fun o q => (sb.2 it (Ne.symm hne)).trans q, hne⟩, fun b hb => ?_⟩
    · rw [show ((i + 1 : Nat) : Int) = (i : Int) + 1 by omega]; exact he'
    · have hb' : b < s.heap.objs.size := by
        rcases (by simpa using hb : b = e ∨ b = it) with z | z
        · rw [z]; exact hel
        · rw [z]; exact hil
      rw [upd_ne (Nat.ne_of_lt hb')]
      exact (hf b hb).1
  done := by
    rintro X rfl rfl rfl hc i pins s σ H E I hf ⟨⟨old, he⟩, hit, hne⟩ ⟨xs, hq, hx⟩
    obtain ⟨its, rv, p, hz⟩ := I.tuple hq
    obtain ⟨f0, f1, f2, f3, f4, f5⟩ := hf it (by simp)
    have nia : a ≠ it := fun z => by
      obtain ⟨o, ho, c1, _⟩ := p
      obtain ⟨o2, ho2, c2, _⟩ := hit
      rw [z, ho2] at ho
      cases ho
      rw [c1] at c2
      exact absurd (Value.type.inj c2) (by decide)
    have no : its.toArray[i]? = none := by
      rw [List.getElem?_toArray, List.getElem?_eq_none_iff, ← rv.length]
      exact hx
    have D : Draws X.prog X.w X.A.in1 it [it, a] 0 (fun _ _ => True) (fun _ h => h.IsTupleIter it a i ∧ h.IsTuple a its.toArray) :=
      ⟨fun _ _ st => let ⟨o, ho, _⟩ := st.1; ⟨o, ho⟩, fun _ _ _ st hk => ⟨st.1.at fun o e => hk it (by simp) o e, st.2.at fun o e => hk a (by simp) o e⟩, fun j _ _ _ h => absurd h (Nat.not_lt_zero _),
        fun s Q E st hE => wpAny_nextOf_tuple_end (A := X.A.in1) (I.ok.hd hc) st.1 st.2 no hE⟩
    exact wpAny_pyNext_enum_endD D he ⟨hit, p⟩ fun h' eb => ⟨rfl, I.turned (t' := s.toks) (fun b o hb q => eb b o hb q) f0 f1 f3 f4 f5⟩
  self := fun A i s Q E st h => let ⟨⟨_, he⟩, _⟩ := st; wpAny_pyIter_enum he h
def iEnumT (K : PySem.W.Frag) (ta : TA) : TI := fun σ H R => ta σ H fun vs H1 => ∃ a xs, vs = [.ref a] ∧ SqT K H1 a xs ∧ R (IteT K a) H1
theorem pi_enumT {X : Cx} {e : Expr} {ta : TA} {p pos tpos : Pos} {elts : List Expr} {kk : Nat} (hg : Gl X "enumerate") (hm : X.mg "enumerate" = none) (ha : PA X [e] ta) (hs : starEach [e] X.env = [(false, eval e X.env)] := by rfl) :
    PI X (.Tuple elts kk tpos) (.Call (.Name "enumerate" p) [e] [] pos) (iEnumT X.K ta) := by
  refine ⟨fun pins s σ H R I h => Call_ (ld_blt I hg hm boot_enumerate (PyProof.Rows.callWith_type1 (thn (ha.run pos pins s σ H _ I h) fun us s1 ⟨vs, H1, I1, r1, a, xs, ex, hq, q⟩ => ?_) hs rfl))⟩
  subst ex
  obtain ⟨its, rv, pt, hz⟩ := I1.tuple hq
  rw [Vals.ref1 r1]
  refine call_enumT pt fun h' he hi hk => wpAny_pyIter_enum he ?_
  have I2 : Inv X pins σ H1 { s1 with heap := h' } := I1.kept (t' := s1.toks) hk
  refine ⟨s1.heap.objs.size + 1, [s1.heap.objs.size + 1, s1.heap.objs.size], _, _, H1, rfl, I2, turn_enumT a (s1.heap.objs.size + 1) s1.heap.objs.size, ⟨⟨.none, he⟩, ⟨_, hi, rfl, rfl⟩, Nat.succ_ne_self _⟩, fun b hb => ?_, q⟩
  have le : s1.heap.objs.size ≤ b := by
    rcases (by simpa using hb : b = s1.heap.objs.size + 1 ∨ b = s1.heap.objs.size) with z | z
    · rw [z]; exact Nat.le_add_right _ _
    · rw [z]; exact Nat.le_refl _
  exact I1.fpOk le (I1.hok.fresh le)
theorem walk_enumT {K : PySem.W.Frag} {a : Addr} {xs : List V} : Walk (IteT K a) xs.length (fun H => SqT K H a xs) (YPair (fun i => some (.int (i : Nat))) (fun i => xs[i]?)) := by
  refine ⟨fun i _ hi q => ⟨xs, xs[i], q, by simp [hi]⟩, fun _ q => ⟨xs, q, Nat.le_refl _⟩, fun i H v H' _ q y => ?_⟩
  obtain ⟨T, x, h1, h2, h3, h4⟩ := y
  exact ⟨T, .int (i : Nat), x, h1, h2, h3, rfl, h4 xs q⟩
end Lk

set_option Elab.async false
set_option linter.all false
set_option maxRecDepth 100000
set_option maxHeartbeats 4000000
namespace Lk
open PySem PySem.Spec PyProof.Rows L2 L2H HotX
/-! ### a def over L2N's exceptions (their context is none) -/
section
variable {P : Program} {w : World} {K : PySem.W.Frag} {mg : Str → Option Value} {base : Heap}
theorem okXN {x qual : Str} {st : Stmt} {f : Addr} {fd : FuncData} {N ps : List Str} {k : Nat} {sp : Sp} (F : Fun K x qual st f fd) (S : FnScope N ps (defScope st)) (len : ∀ vs H Q E, sp vs H Q E → vs.length = ps.length)
    (bd : ∀ (cdv : Value) (A : Around) (outer : List Env) (s : Shared) (H : Hp) (vs : List V) (Q : VK) (E : XK), Room k (A.deeper (envOfC qual (defScope st) s.heap.objs.size f cdv)) → sp vs H Q E →
      ∃ t, PSs (cxOf (L2N.CX P w) P w K mg base N qual (defScope st) f cdv A outer s H E) (defBody st) t ∧ t { nx := fun _ H' => Q .non H', rt := Q } (L2.start N vs) H) : FnOk P w K mg base (L2N.CX P w) (k + 1) f fd ps sp := by
  obtain ⟨_, _, _, _, _, _, cdv, _, _, rfl, l1, l2⟩ := F.ex
  exact fn_of l1 l2 S len fun A outer s H vs Q E h1 h2 => bd cdv A outer s H vs Q E h1 h2
end
/-! ### C(..), the object's context is none -/
theorem pmk_oexN {X : Cx} {CX : CXT} {x : Str} {C fI : Addr} {k : Nat} {fd : FuncData} {ps : List Str} {sp : Sp} {ds : List Value} {dvs : List V} {e : Expr} {es : List Expr} {ta : TA} {p pos : Pos} (T : OexC X.K C)
    (iC : PySem.W.findIn X.K (.ref C) "__init__" = some (some (.ref fI))) (tI : PySem.W.typeIn X.K (.ref fI) = some (.type "function")) (F1 : FnOk X.prog X.w X.K X.mg X.base CX k fI fd ps sp) (hr : Room (k + 1) X.A) (hb : Binds X.K fd ps ds)
    (hd : Vals dvs ds) (hx : Passes CX X (fun _ _ _ => False)) (hg : Gl X x) (hm : X.mg x = some (.ref C)) (ha : PA X (e :: es) ta) (hdb : (x == ("__debug__" : Str)) = false := by decide)
    (he : starEach (e :: es) X.env = (false, eval e X.env) :: starEach es X.env := by rfl) (hpl : (backTo pos (starEach es X.env)).any (·.1) = false := by rfl) : L2N.PMk X (.Call (.Name x p) (e :: es) [] pos) (tMkO C sp dvs ta) := by
  intro pins s σ H Q I h
  obtain ⟨nm, q, N, bs, bm, sn, sub, ab, col, dd, k0, k1, k2, k3, k5, hC, hbm⟩ := T.cls
  refine wpAny_Call_Name_kw (ld_glob I hg hm (PySem.W.callWith_K (h₀ := X.base) I.ok.mod.kin T.kC (thn (ha.run pos pins s σ H _ I h) fun us s1 ⟨vs, H1, I1, r1, hz, q1⟩ => ⟨I1.kIn, ?_⟩) he hpl) hdb)
  obtain ⟨hp, g, dr, tk, os⟩ := s1
  let n := hp.objs.size
  let h1 := (hp.push (PySem.W.kdv_tup us)).push (PySem.HandSPX.excO C n)
  have le1 : n ≤ n + 1 := Nat.le_succ _
  have fr : H1 (n + 1) = none := I1.hok.fresh le1
  have grow : ∀ b o, hp.get? b = some o → h1.get? b = some o := fun b o e => Heap.get?_push_of_some _ (Heap.get?_push_of_some _ e)
  have there : h1.get? (n + 1) = some (PySem.HandSPX.excO C n) := by
    show ((hp.push (PySem.W.kdv_tup us)).push (PySem.HandSPX.excO C hp.objs.size)).get? (hp.objs.size + 1) = some (PySem.HandSPX.excO C hp.objs.size)
    heap_get
  have want := q1 (n + 1) fr
  have I2 : Inv X pins σ (upd H1 (n + 1) (exo (n + 1) C none)) ⟨h1, g, dr, tk, os⟩ := I1.laid (t' := tk) (a := n + 1) (o := exo (n + 1) C none) (h' := h1) grow le1 (exo_ok there)
  have r2 : Vals (V.ref (n + 1) :: (vs ++ dvs)) (Value.ref (n + 1) :: (us ++ ds)) := .cons rfl (r1.append hd)
  have hl : (Value.ref (n + 1) :: us ++ ds).length = ps.length := by
    have := r2.length
    rw [F1.len _ _ _ _ want] at this
    exact this.symm
  have few : us.length ≤ sizeLine := by rw [← Paired.length r1, sizeLine_eq]; omega
  have run1 := F1.run _ X.stack _ _ ⟨Value.ref (n + 1) :: us, []⟩ (Value.ref (n + 1) :: (us ++ ds)) _ _ (fun _ _ _ => False) (hr.make C us []) (I2.env0.make C us []) (hb _ (Value.ref (n + 1) :: us) I2.kIn hl) r2 want
  have beh : ∀ (r : Result) (s' : Shared), CR CX X.stack X.prog X.w (upd H1 (n + 1) (exo (n + 1) C none)) ⟨h1, g, dr, tk, os⟩ (fun v H2 => v = .non ∧ ∃ (d : Addr) (fs : List (Str × V)), H2 (n + 1) = some (exo (n + 1) C (some d)) ∧ H2 d = some (exd d fs) ∧ H1 d = none ∧ Q (.ref C) (some d) (upd (del H2 (n + 1)) d (.xd fs))) (fun _ _ _ => False) r s' →
      (∃ u, r = .ok (.ret u) ∧ u = Value.none ∧ L2N.MkP X pins σ Q (.ref (n + 1)) s') ∨ ∃ er, r = .error er ∧ X.xe er s' := fun r s' hq' => by
    match r, hq' with
    | .error er, hq' => exact .inr ⟨er, rfl, hx pins σ _ _ er s' I2 hq'⟩
    | .ok (.ret u), hq' =>
      obtain ⟨v, H2, os2, bare2, un2, hok2, rv, ev, d, fs, ea, ed, hd1, q2⟩ := hq'
      subst ev
      obtain ⟨h2, g2, d2, t2, os'⟩ := s'
      obtain ⟨t0, G, J, kG, ge, hoe, na⟩ := mk_end0 (d2 := d2) (t2 := t2) I1 le1 grow un2 hok2 os2 bare2 ea ed hd1
      refine .inl ⟨u, rfl, rv, n + 1, _, _, ⟨G, g2, d2, t2, os'⟩, _, .ref C, some d, rfl, J, kG, ge, hoe, ⟨rfl, rfl, fun ws hw => ?_⟩, rfl, rfl, na, rfl, bare2, raises_own T.exC T.tyC, q2⟩
      cases hw; rfl
    | .ok .next, hq' => exact hq'.elim
    | .ok .brk, hq' => exact hq'.elim
    | .ok .cont, hq' => exact hq'.elim
  refine wpAny_call (PySem.HandSPX.call_own F.excBase_ValueError (fun Y => PySem.HandSPX.refsVE_contains Y bm hbm) (I1.kIn _ _ hC) (PySem.W.looks_findIn I1.kIn iC) (fun self => PySem.W.bind_fn I1.kIn self tI) few (codeAny_mono run1 fun r s' z => ?_))
  rcases beh r s' z with ⟨u, rfl, e, y⟩ | ⟨er, rfl, y⟩
  · exact ⟨e, y⟩
  · exact y
/-! ### a def that is handed the exception in hand -/
structure FnP (P : Program) (w : World) (K : PySem.W.Frag) (mg : Str → Option Value) (base : Heap) (k : Nat) (f : Addr) (fd : FuncData) (ps : List Str) (sp : Addr × Obj → Sp) : Prop where
  many : ∀ p vs H Q E, sp p vs H Q E → vs.length = ps.length
  goes : ∀ (p : Addr × Obj) (A : Around) (outer : List Env) (s : Shared) (H : Hp) (args : Args) (us : List Value) (vs : List V) (Q : VK) (E : XK), RoomH k A → Hot1 A p → PinOk outer H s p → Env0 P w K mg base A outer s H → BindsTo s fd args (ps.zip us) →
    Vals vs us → sp p vs H Q E → codeAny (model P w) A (.call (.ref f) args) (CR CX0 outer P w H s Q E) s
section
variable {P : Program} {w : World} {K : PySem.W.Frag} {mg : Str → Option Value} {base : Heap}
theorem okP {x qual : Str} {st : Stmt} {f : Addr} {fd : FuncData} {N ps : List Str} {k : Nat} {sp : Addr × Obj → Sp} (F : Fun K x qual st f fd) (S : FnScope N ps (defScope st)) (len : ∀ p vs H Q E, sp p vs H Q E → vs.length = ps.length)
    (bd : ∀ (p : Addr × Obj) (cdv : Value) (A : Around) (outer : List Env) (s : Shared) (H : Hp) (vs : List V) (Q : VK) (E : XK), Hot1 A p → RoomH k (A.deeper (envOfC qual (defScope st) s.heap.objs.size f cdv)) → sp p vs H Q E →
      ∃ t, PSs (cxH CX0 P w K mg base N qual (defScope st) f cdv A outer s H E p).nox (defBody st) t ∧ t { nx := fun _ H' => Q .non H', rt := Q } (L2.start N vs) H) : FnP P w K mg base (k + 1) f fd ps sp := by
  obtain ⟨_, _, kV, doc, pm, an, cdv, ct, _, rfl, l1, l2⟩ := F.ex
  refine ⟨len, fun p A outer s H args us vs Q E r0 hot hpin e0 hb r hsp => ?_⟩
  have many := len _ _ _ _ _ hsp
  have KX : K.In s.heap := e0.mod.kin.keeps fun b o e => (e0.bs b o e).1
  have lm : s.heap.NoLimit := e0.mod.nolimit.keeps fun b o e => (e0.bs b o e).1
  refine codeAny_call_function r0.depth (KX _ _ l1) rfl S.co S.gen rfl (PySem.W.codeRec_of KX l2) (hb _ _ _ _ (wpAny_newFunctionEnv_cells S.kind (fun y hy => ?_) fun env he s1 z => ?_))
  · obtain ⟨n, v⟩ := y
    exact (S.par n (List.of_mem_zip hy).1).imp (fun q => q) fun q => ⟨q, PySem.W.cellsFrom_some _ _ _ (.inl q)⟩
  subst he
  obtain ⟨t, ht, hq⟩ := bd p cdv A outer s H vs Q E hot (r0.deeper _) hsp
  have I := inv_startH (CX := CX0) (E := E) S hpin e0 many r z
  refine ⟨lm.keeps z.toInCall.keep, codeAny_func (wpAny_mono (ht.nox.run [] s1 (L2.start N vs) H _ I hq) (fun fl s' hs => ?_) fun _ _ y => y)⟩
  match fl, hs with
  | .ret u, ⟨v, σ', H', J, rv, q⟩ => exact ⟨v, H', J.os, J.bare, J.base, J.hok, rv, q⟩
  | .next, ⟨σ', H', J, q⟩ => exact ⟨V.non, H', J.os, J.bare, J.base, J.hok, (rfl : Value.none = Value.none), q⟩
  | .brk, ⟨_, _, _, q⟩ => exact q.elim
  | .cont, ⟨_, _, _, q⟩ => exact q.elim
theorem okH {x qual : Str} {st : Stmt} {f : Addr} {fd : FuncData} {N ps : List Str} {k : Nat} {sp : Sp} (F : Fun K x qual st f fd) (S : FnScope N ps (defScope st)) (len : ∀ vs H Q E, sp vs H Q E → vs.length = ps.length)
    (bd : ∀ (p : Addr × Obj) (cdv : Value) (A : Around) (outer : List Env) (s : Shared) (H : Hp) (vs : List V) (Q : VK) (E : XK), Hot1 A p → RoomH k (A.deeper (envOfC qual (defScope st) s.heap.objs.size f cdv)) → sp vs H Q E →
      ∃ t, PSs (cxH CX0 P w K mg base N qual (defScope st) f cdv A outer s H E p).nox (defBody st) t ∧ t { nx := fun _ H' => Q .non H', rt := Q } (L2.start N vs) H) : FnH P w K mg base CX0 (k + 1) f fd ps sp :=
  have F1 : FnP P w K mg base (k + 1) f fd ps (fun _ => sp) := okP F S (fun _ => len) bd
  ⟨len, fun A outer s H args us vs Q E p h1 h2 h3 h4 h5 h6 h7 => F1.goes p A outer s H args us vs Q E h1 h2 h3 h4 h5 h6 h7⟩
end
theorem fnH_vac {P : Program} {w : World} {K : PySem.W.Frag} {mg : Str → Option Value} {base : Heap} {k : Nat} {f : Addr} {fd : FuncData} {ps : List Str} {sp : Sp} (h : ∀ vs H Q E, ¬ sp vs H Q E) : FnH P w K mg base CX0 k f fd ps sp :=
  ⟨fun vs H Q E z => absurd z (h vs H Q E), fun _ _ _ H _ _ vs Q E _ _ _ _ _ _ _ z => absurd z (h vs H Q E)⟩
theorem hotOf {X : Cx} {p : Addr × Obj} (h : Hot1 X.A p) (m : p ∈ X.pn) : HotC X := ⟨p, h, m⟩
section
variable {X : Cx} {k : Nat} {f : Addr} {fd : FuncData} {ps : List Str} {sp : Addr × Obj → Sp} {x : Str} {q pos : Pos} {e : Expr} {es : List Expr} {t : TA} {p : Addr × Obj}
def tCallP (sp : Addr × Obj → Sp) (p : Addr × Obj) (t : TA) : TE := fun σ H Q => t σ H fun vs H1 => sp p vs H1 Q E0
/-- the call that hands it on -/
theorem pe_callP (F : FnP X.prog X.w X.K X.mg X.base k f fd ps sp) (hr : RoomH k X.A) (hot : Hot1 X.A p) (hp : p ∈ X.pn) (hg : Gl X x) (hm : X.mg x = some (.ref f)) (hk : PySem.W.keepIn X.K (.ref f) = true) (hb : Binds X.K fd ps [])
    (ha : PA X (e :: es) t) (hdb : (x == ("__debug__" : Str)) = false := by decide) (he : starEach (e :: es) X.env = (false, eval e X.env) :: starEach es X.env := by rfl) (hpl : (backTo pos (starEach es X.env)).any (·.1) = false := by rfl) :
    PE X (.Call (.Name x q) (e :: es) [] pos) (tCallP sp p t) := by
  refine ⟨fun pins s σ H Q I h => wpAny_Call_Name_kw (ld_glob I hg hm (PySem.W.callWith_K (h₀ := X.base) I.ok.mod.kin hk (thn (ha.run pos pins s σ H _ I h) fun us s1 ⟨vs, H1, I1, r, q⟩ => ⟨I1.kIn, ?_⟩) he hpl) hdb)⟩
  have ln : us.length = ps.length := by rw [← r.length]; exact F.many _ _ _ _ _ q
  have b := hb s1 us I1.kIn (by rw [List.append_nil]; exact ln)
  rw [List.append_nil] at b
  obtain ⟨p1, p2, p3, p4, p5⟩ := I1.pin p (List.mem_append_left _ hp)
  have ok : PinOk X.stack H1 s1 p := ⟨p1, p2, fun m => (List.mem_cons.mp (I1.stkSub p.1 m)).elim p3 p4, p5⟩
  refine wpAny_call (codeAny_mono (F.goes p X.A X.stack s1 H1 ⟨us, []⟩ us vs Q E0 hr hot ok I1.env0 b r q) fun o s2 ho => ?_)
  match o, ho with
  | .error _, ho => exact ho.elim
  | .ok (.ret _), ho => exact I1.after ho
  | .ok .next, ho => exact ho.elim
  | .ok .brk, ho => exact ho.elim
  | .ok .cont, ho => exact ho.elim
end
/-! ### what such a def asks of it -/
section
variable {X : Cx} {a C : Addr} {oe : Obj} {cls : Value} {d : Option Addr}
theorem inst_p {dd : Addr} {fs : List (Str × V)} {pins : List (Addr × Obj)} {σ : L2.St} {H : Hp} {s : Shared} (hp : (a, oe) ∈ X.pn) (hz : Zc cls d oe) (hf : ∃ vs, oe.data = .fields vs) (I : Inv X pins σ H s) (e1 : cls = .ref C) (e2 : d = some dd) (e3 : H dd = some (.xd fs)) :
    ∃ od, PySem.W.InstAt s.heap a oe C od := by
  subst e1 e2
  obtain ⟨g, _⟩ := I.pin (a, oe) (List.mem_append_left _ hp)
  obtain ⟨vs, hd⟩ := hf
  obtain ⟨_, n, _⟩ := (show ObjOk X.prog X.w H s.heap dd (.xd fs) from I.hok dd _ e3)
  obtain ⟨od, ho, _⟩ := lookIn_ns n
  exact ⟨some od, g, hz.1, by unfold PySem.W.notCls; rw [hd] <;> rfl, by rw [hz.2]; exact ho⟩
theorem call_isP (hp : (a, oe) ∈ X.pn) (hz : Zc cls d oe) (hf : ∃ vs, oe.data = .fields vs) : CallR X (.builtin "isinstance") (rIsX X.K a cls d) := by
  rintro ps₁ s₁ τ G xs us R J r ⟨C, dd, fs, c, u, b, e1, e2, e3, T, rfl, k, e, q⟩
  obtain ⟨v1, v2, rfl, w1, w2⟩ := vals2 r
  obtain rfl := k.eq w2
  obtain rfl : v1 = Value.ref a := w1
  obtain ⟨od, y⟩ := inst_p hp hz hf J e1 e2 e3
  exact PySem.W.kia_one (PySem.W.kitx_exc T.hc T.hg T.hk T.hs T.ha T.hn T.ht T.hm) J.kIn y e (fun z => nomatch z) fun tk => ⟨.bl b, G, J.tok tk, rfl, q⟩
theorem pe_xfP {e : Expr} {te : TE} {pos : Pos} {n : Str} (T : XfC X.K C) (hno : PySem.W.findIn X.K (.ref C) n = some none) (hp : (a, oe) ∈ X.pn) (hz : Zc cls d oe) (hf : ∃ vs, oe.data = .fields vs) (he : PE X e te)
    (hb : attributeBase e n X.env (eval e X.env) = eval e X.env := by rfl) : PE X (.Attribute e n pos) (tXf a cls d C n te) := by
  refine ⟨fun pins s σ H Q I h => attr_of hb (thn (he.run pins s σ H _ I h) fun u s1 ⟨x, H1, I1, rx, ex, ec, dd, fs, v, ed, ea, l, q⟩ => ?_)⟩
  subst ex ec ed
  obtain rfl : u = Value.ref a := rx
  obtain ⟨mA, n1, n2⟩ := (show ObjOk X.prog X.w H1 s1.heap dd (.xd fs) from I1.hok dd _ ea)
  obtain ⟨od, ho, hl⟩ := lookIn_ns n1
  obtain ⟨u, hu, ru⟩ := RelO.some_of (v := v) (o := mA n) (by rw [← l]; exact n2 n)
  obtain ⟨vs, hd⟩ := hf
  have J : PySem.W.InstAt s1.heap a oe C (some od) := ⟨(I1.pin (a, oe) (List.mem_append_left _ hp)).1, hz.1, by unfold PySem.W.notCls; rw [hd] <;> rfl, by rw [hz.2]; exact ho⟩
  exact HandSPX.exc_get I1.kIn J T.ga T.gg T.exC (PySem.W.findObj_own T.hdC hno rfl (by rw [hl, hu])) (handed_of ru) ⟨v, H1, I1.tok _, ru, q⟩
end
/-- the exception that a suite holds is hot -/
theorem hot_suite {X : Cx} {a : Addr} {oe : Obj} {cls : Value} {d : Option Addr} {pn : List (Addr × Obj)} (hz : L2N.Zn cls d oe) (hf : ∃ vs, oe.data = .fields vs) : Hot1 (X.suite a ((a, oe) :: pn)).A (a, oe) := by
  obtain ⟨vs, e⟩ := hf
  exact ⟨rfl, vs, e, hz.2.2 vs e⟩
end Lk

set_option Elab.async false
set_option linter.all false
set_option maxRecDepth 100000
set_option maxHeartbeats 4000000
namespace Lk
open PySem PySem.Spec PyProof.Rows L2
def top (i : Nat) : Stmt := PySem.Challenge.pw_linkneed_k31_whole_reach_and_rings.main.body.getD i (.Pass ⟨0, 0, 0, 0⟩)
abbrev s_NotUsable___init__ : Stmt := inClass (top 4) 0
abbrev sl_NotUsable___init__ : List Str := ["self", "word", "at"]
theorem sc_NotUsable___init__ : FnScope sl_NotUsable___init__ ["self", "word", "at"] (defScope s_NotUsable___init__) := ⟨rfl, rfl, rfl, by decide +kernel, rfl, by decide +kernel, by decide +kernel⟩
abbrev s_Missing___init__ : Stmt := inClass (top 5) 0
abbrev sl_Missing___init__ : List Str := ["self", "title"]
theorem sc_Missing___init__ : FnScope sl_Missing___init__ ["self", "title"] (defScope s_Missing___init__) := ⟨rfl, rfl, rfl, by decide +kernel, rfl, by decide +kernel, by decide +kernel⟩
abbrev s_is_integer : Stmt := top 11
abbrev sl_is_integer : List Str := ["thing"]
theorem sc_is_integer : FnScope sl_is_integer ["thing"] (defScope s_is_integer) := ⟨rfl, rfl, rfl, by decide +kernel, rfl, by decide +kernel, by decide +kernel⟩
abbrev s_is_number : Stmt := top 12
abbrev sl_is_number : List Str := ["thing"]
theorem sc_is_number : FnScope sl_is_number ["thing"] (defScope s_is_number) := ⟨rfl, rfl, rfl, by decide +kernel, rfl, by decide +kernel, by decide +kernel⟩
abbrev s_is_title : Stmt := top 13
abbrev sl_is_title : List Str := ["thing", "letter"]
theorem sc_is_title : FnScope sl_is_title ["thing"] (defScope s_is_title) := ⟨rfl, rfl, rfl, by decide +kernel, rfl, by decide +kernel, by decide +kernel⟩
abbrev s_is_sheet : Stmt := top 15
abbrev sl_is_sheet : List Str := ["thing", "call"]
theorem sc_is_sheet : FnScope sl_is_sheet ["thing"] (defScope s_is_sheet) := ⟨rfl, rfl, rfl, by decide +kernel, rfl, by decide +kernel, by decide +kernel⟩
abbrev s__is_call : Stmt := top 16
abbrev sl__is_call : List Str := ["thing"]
theorem sc__is_call : FnScope sl__is_call ["thing"] (defScope s__is_call) := ⟨rfl, rfl, rfl, by decide +kernel, rfl, by decide +kernel, by decide +kernel⟩
abbrev s_is_sheets : Stmt := top 17
abbrev sl_is_sheets : List Str := ["thing", "sheet"]
theorem sc_is_sheets : FnScope sl_is_sheets ["thing"] (defScope s_is_sheets) := ⟨rfl, rfl, rfl, by decide +kernel, rfl, by decide +kernel, by decide +kernel⟩
abbrev s_reached_from : Stmt := top 19
abbrev sl_reached_from : List Str := ["sheets", "name", "reached"]
theorem sc_reached_from : FnScope sl_reached_from ["sheets", "name"] (defScope s_reached_from) := ⟨rfl, rfl, rfl, by decide +kernel, rfl, by decide +kernel, by decide +kernel⟩
abbrev s_rings_of : Stmt := top 20
abbrev sl_rings_of : List Str := ["sheets", "reached", "rings", "title", "ring", "other"]
theorem sc_rings_of : FnScope sl_rings_of ["sheets"] (defScope s_rings_of) := ⟨rfl, rfl, rfl, by decide +kernel, rfl, by decide +kernel, by decide +kernel⟩
abbrev s_is_ring_call : Stmt := top 21
abbrev sl_is_ring_call : List Str := ["sheets", "caller", "called", "reached"]
theorem sc_is_ring_call : FnScope sl_is_ring_call ["sheets", "caller", "called"] (defScope s_is_ring_call) := ⟨rfl, rfl, rfl, by decide +kernel, rfl, by decide +kernel, by decide +kernel⟩
abbrev s_reached_tables : Stmt := top 22
abbrev sl_reached_tables : List Str := ["sheets", "called", "title", "_", "calls", "name"]
theorem sc_reached_tables : FnScope sl_reached_tables ["sheets"] (defScope s_reached_tables) := ⟨rfl, rfl, rfl, by decide +kernel, rfl, by decide +kernel, by decide +kernel⟩
abbrev s__reached : Stmt := top 23
abbrev sl__reached : List Str := ["called", "title", "reached", "pending", "one"]
theorem sc__reached : FnScope sl__reached ["called", "title"] (defScope s__reached) := ⟨rfl, rfl, rfl, by decide +kernel, rfl, by decide +kernel, by decide +kernel⟩
abbrev s__check_title : Stmt := top 24
abbrev sl__check_title : List Str := ["title", "titles"]
theorem sc__check_title : FnScope sl__check_title ["title", "titles"] (defScope s__check_title) := ⟨rfl, rfl, rfl, by decide +kernel, rfl, by decide +kernel, by decide +kernel⟩
abbrev s__law_feed : Stmt := top 26
abbrev sl__law_feed : List Str := ["_law_script", "_law_cell"]
theorem sc__law_feed : FnScope sl__law_feed ["_law_script"] (defScope s__law_feed) := ⟨rfl, rfl, rfl, by decide +kernel, rfl, by decide +kernel, by decide +kernel⟩
abbrev s__law_pick : Stmt := top 27
abbrev sl__law_pick : List Str := ["_law_feed_here", "_law_wide", "_law_figure", "_law_cells", "_law_turn", "_law_cell", "_law_blend"]
theorem sc__law_pick : FnScope sl__law_pick ["_law_feed_here", "_law_wide"] (defScope s__law_pick) := ⟨rfl, rfl, rfl, by decide +kernel, rfl, by decide +kernel, by decide +kernel⟩
abbrev s__law_same : Stmt := top 28
abbrev sl__law_same : List Str := ["_law_told", "_law_due"]
theorem sc__law_same : FnScope sl__law_same ["_law_told", "_law_due"] (defScope s__law_same) := ⟨rfl, rfl, rfl, by decide +kernel, rfl, by decide +kernel, by decide +kernel⟩
abbrev s__law_said : Stmt := top 29
abbrev sl__law_said : List Str := ["_law_ask", "error"]
theorem sc__law_said : FnScope sl__law_said ["_law_ask"] (defScope s__law_said) := ⟨rfl, rfl, rfl, by decide +kernel, rfl, by decide +kernel, by decide +kernel⟩
abbrev s__law_tome : Stmt := top 30
abbrev sl__law_tome : List Str := ["_law_feed_here", "_law_menu", "_law_many", "_law_begun", "_law_style", "_law_titles", "_law_ghosts", "_law_rows", "_law_k", "_law_calls", "_law_turn", "_law_goal"]
theorem sc__law_tome : FnScope sl__law_tome ["_law_feed_here"] (defScope s__law_tome) := ⟨rfl, rfl, rfl, by decide +kernel, rfl, by decide +kernel, by decide +kernel⟩
abbrev s__law_ways : Stmt := top 31
abbrev sl__law_ways : List Str := ["_law_rows", "_law_titles", "_law_ways_here", "_law_row", "_law_call", "_law_middle", "_law_one", "_law_other"]
theorem sc__law_ways : FnScope sl__law_ways ["_law_rows", "_law_titles"] (defScope s__law_ways) := ⟨rfl, rfl, rfl, by decide +kernel, rfl, by decide +kernel, by decide +kernel⟩
abbrev s__law_rings : Stmt := top 32
abbrev sl__law_rings : List Str := ["_law_titles", "_law_ways_here", "_law_rings_here", "_law_one", "_law_ring", "_law_other"]
theorem sc__law_rings : FnScope sl__law_rings ["_law_titles", "_law_ways_here"] (defScope s__law_rings) := ⟨rfl, rfl, rfl, by decide +kernel, rfl, by decide +kernel, by decide +kernel⟩
abbrev s__law_are_reached : Stmt := top 33
abbrev sl__law_are_reached : List Str := ["_law_feed_here", "_law_rows", "_law_titles", "_law_ways_here", "_law_tome_here", "_law_turned", "_law_rings_here", "_law_told", "_law_due", "_law_one", "_law_turn", "_law_other"]
theorem sc__law_are_reached : FnScope sl__law_are_reached ["_law_feed_here", "_law_rows", "_law_titles", "_law_ways_here"] (defScope s__law_are_reached) := ⟨rfl, rfl, rfl, by decide +kernel, rfl, by decide +kernel, by decide +kernel⟩
abbrev s__law_are_missing : Stmt := top 34
abbrev sl__law_are_missing : List Str := ["_law_feed_here", "_law_rows", "_law_titles", "_law_ghosts", "_law_tome_here", "_law_odd", "_law_begun", "_law_told", "_law_due", "_law_some"]
theorem sc__law_are_missing : FnScope sl__law_are_missing ["_law_feed_here", "_law_rows", "_law_titles", "_law_ghosts"] (defScope s__law_are_missing) := ⟨rfl, rfl, rfl, by decide +kernel, rfl, by decide +kernel, by decide +kernel⟩
abbrev s__law_are_refused : Stmt := top 35
abbrev sl__law_are_refused : List Str := ["_law_feed_here", "_law_good", "_law_bad", "_law_begun", "_law_told", "_law_due", "_law_some"]
theorem sc__law_are_refused : FnScope sl__law_are_refused ["_law_feed_here"] (defScope s__law_are_refused) := ⟨rfl, rfl, rfl, by decide +kernel, rfl, by decide +kernel, by decide +kernel⟩
abbrev s_law : Stmt := top 36
abbrev sl_law : List Str := ["_law_script", "_law_feed_here", "_law_rows", "_law_titles", "_law_ghosts", "_law_ways_here"]
theorem sc_law : FnScope sl_law ["_law_script"] (defScope s_law) := ⟨rfl, rfl, rfl, by decide +kernel, rfl, by decide +kernel, by decide +kernel⟩
structure Txt (K : PySem.W.Frag) (mg : Str → Option Value) where
  C_NeedError : Addr
  mC_NeedError : mg "NeedError" = some (.ref C_NeedError)
  C_UnitError : Addr
  mC_UnitError : mg "UnitError" = some (.ref C_UnitError)
  C_LinkError : Addr
  mC_LinkError : mg "LinkError" = some (.ref C_LinkError)
  C_NotUsable : Addr
  mC_NotUsable : mg "NotUsable" = some (.ref C_NotUsable)
  C_Missing : Addr
  mC_Missing : mg "Missing" = some (.ref C_Missing)
  f_NotUsable__init__ : Addr
  d_NotUsable__init__ : FuncData
  F_NotUsable__init__ : Fun K "__init__" "NotUsable.__init__" s_NotUsable___init__ f_NotUsable__init__ d_NotUsable__init__
  b_NotUsable__init__ : Binds K d_NotUsable__init__ ["self", "word", "at"] []
  f_Missing__init__ : Addr
  d_Missing__init__ : FuncData
  F_Missing__init__ : Fun K "__init__" "Missing.__init__" s_Missing___init__ f_Missing__init__ d_Missing__init__
  b_Missing__init__ : Binds K d_Missing__init__ ["self", "title"] []
  f_is_integer : Addr
  d_is_integer : FuncData
  F_is_integer : Fun K "is_integer" "is_integer" s_is_integer f_is_integer d_is_integer
  m_is_integer : mg "is_integer" = some (.ref f_is_integer)
  k_is_integer : PySem.W.keepIn K (.ref f_is_integer) = true
  b_is_integer : Binds K d_is_integer ["thing"] []
  f_is_number : Addr
  d_is_number : FuncData
  F_is_number : Fun K "is_number" "is_number" s_is_number f_is_number d_is_number
  m_is_number : mg "is_number" = some (.ref f_is_number)
  k_is_number : PySem.W.keepIn K (.ref f_is_number) = true
  b_is_number : Binds K d_is_number ["thing"] []
  f_is_title : Addr
  d_is_title : FuncData
  F_is_title : Fun K "is_title" "is_title" s_is_title f_is_title d_is_title
  m_is_title : mg "is_title" = some (.ref f_is_title)
  k_is_title : PySem.W.keepIn K (.ref f_is_title) = true
  b_is_title : Binds K d_is_title ["thing"] []
  f_is_sheet : Addr
  d_is_sheet : FuncData
  F_is_sheet : Fun K "is_sheet" "is_sheet" s_is_sheet f_is_sheet d_is_sheet
  m_is_sheet : mg "is_sheet" = some (.ref f_is_sheet)
  k_is_sheet : PySem.W.keepIn K (.ref f_is_sheet) = true
  b_is_sheet : Binds K d_is_sheet ["thing"] []
  f__is_call : Addr
  d__is_call : FuncData
  F__is_call : Fun K "_is_call" "_is_call" s__is_call f__is_call d__is_call
  m__is_call : mg "_is_call" = some (.ref f__is_call)
  k__is_call : PySem.W.keepIn K (.ref f__is_call) = true
  b__is_call : Binds K d__is_call ["thing"] []
  f_is_sheets : Addr
  d_is_sheets : FuncData
  F_is_sheets : Fun K "is_sheets" "is_sheets" s_is_sheets f_is_sheets d_is_sheets
  m_is_sheets : mg "is_sheets" = some (.ref f_is_sheets)
  k_is_sheets : PySem.W.keepIn K (.ref f_is_sheets) = true
  b_is_sheets : Binds K d_is_sheets ["thing"] []
  f_reached_from : Addr
  d_reached_from : FuncData
  F_reached_from : Fun K "reached_from" "reached_from" s_reached_from f_reached_from d_reached_from
  m_reached_from : mg "reached_from" = some (.ref f_reached_from)
  k_reached_from : PySem.W.keepIn K (.ref f_reached_from) = true
  b_reached_from : Binds K d_reached_from ["sheets", "name"] []
  w_reached_from_name_sheets : KBinds K d_reached_from ["sheets", "name"] ["name", "sheets"] (fun us ws => match us, ws with | [], [b, a] => [a, b] | _, _ => []) (fun vs zs => match vs, zs with | [], [b, a] => [a, b] | _, _ => [])
  f_rings_of : Addr
  d_rings_of : FuncData
  F_rings_of : Fun K "rings_of" "rings_of" s_rings_of f_rings_of d_rings_of
  m_rings_of : mg "rings_of" = some (.ref f_rings_of)
  k_rings_of : PySem.W.keepIn K (.ref f_rings_of) = true
  b_rings_of : Binds K d_rings_of ["sheets"] []
  w_rings_of_sheets : KBinds K d_rings_of ["sheets"] ["sheets"] (fun us ws => match us, ws with | [], [a] => [a] | _, _ => []) (fun vs zs => match vs, zs with | [], [a] => [a] | _, _ => [])
  f_is_ring_call : Addr
  d_is_ring_call : FuncData
  F_is_ring_call : Fun K "is_ring_call" "is_ring_call" s_is_ring_call f_is_ring_call d_is_ring_call
  m_is_ring_call : mg "is_ring_call" = some (.ref f_is_ring_call)
  k_is_ring_call : PySem.W.keepIn K (.ref f_is_ring_call) = true
  b_is_ring_call : Binds K d_is_ring_call ["sheets", "caller", "called"] []
  w_is_ring_call_called_caller_sheets : KBinds K d_is_ring_call ["sheets", "caller", "called"] ["called", "caller", "sheets"] (fun us ws => match us, ws with | [], [c, b, a] => [a, b, c] | _, _ => []) (fun vs zs => match vs, zs with | [], [c, b, a] => [a, b, c] | _, _ => [])
  f_reached_tables : Addr
  d_reached_tables : FuncData
  F_reached_tables : Fun K "reached_tables" "reached_tables" s_reached_tables f_reached_tables d_reached_tables
  m_reached_tables : mg "reached_tables" = some (.ref f_reached_tables)
  k_reached_tables : PySem.W.keepIn K (.ref f_reached_tables) = true
  b_reached_tables : Binds K d_reached_tables ["sheets"] []
  f__reached : Addr
  d__reached : FuncData
  F__reached : Fun K "_reached" "_reached" s__reached f__reached d__reached
  m__reached : mg "_reached" = some (.ref f__reached)
  k__reached : PySem.W.keepIn K (.ref f__reached) = true
  b__reached : Binds K d__reached ["called", "title"] []
  f__check_title : Addr
  d__check_title : FuncData
  F__check_title : Fun K "_check_title" "_check_title" s__check_title f__check_title d__check_title
  m__check_title : mg "_check_title" = some (.ref f__check_title)
  k__check_title : PySem.W.keepIn K (.ref f__check_title) = true
  b__check_title : Binds K d__check_title ["title", "titles"] []
  f__law_feed : Addr
  d__law_feed : FuncData
  F__law_feed : Fun K "_law_feed" "_law_feed" s__law_feed f__law_feed d__law_feed
  m__law_feed : mg "_law_feed" = some (.ref f__law_feed)
  k__law_feed : PySem.W.keepIn K (.ref f__law_feed) = true
  b__law_feed : Binds K d__law_feed ["_law_script"] []
  f__law_pick : Addr
  d__law_pick : FuncData
  F__law_pick : Fun K "_law_pick" "_law_pick" s__law_pick f__law_pick d__law_pick
  m__law_pick : mg "_law_pick" = some (.ref f__law_pick)
  k__law_pick : PySem.W.keepIn K (.ref f__law_pick) = true
  b__law_pick : Binds K d__law_pick ["_law_feed_here", "_law_wide"] []
  f__law_same : Addr
  d__law_same : FuncData
  F__law_same : Fun K "_law_same" "_law_same" s__law_same f__law_same d__law_same
  m__law_same : mg "_law_same" = some (.ref f__law_same)
  k__law_same : PySem.W.keepIn K (.ref f__law_same) = true
  b__law_same : Binds K d__law_same ["_law_told", "_law_due"] []
  f__law_said : Addr
  d__law_said : FuncData
  F__law_said : Fun K "_law_said" "_law_said" s__law_said f__law_said d__law_said
  m__law_said : mg "_law_said" = some (.ref f__law_said)
  k__law_said : PySem.W.keepIn K (.ref f__law_said) = true
  b__law_said : Binds K d__law_said ["_law_ask"] []
  f__law_tome : Addr
  d__law_tome : FuncData
  F__law_tome : Fun K "_law_tome" "_law_tome" s__law_tome f__law_tome d__law_tome
  m__law_tome : mg "_law_tome" = some (.ref f__law_tome)
  k__law_tome : PySem.W.keepIn K (.ref f__law_tome) = true
  b__law_tome : Binds K d__law_tome ["_law_feed_here"] []
  f__law_ways : Addr
  d__law_ways : FuncData
  F__law_ways : Fun K "_law_ways" "_law_ways" s__law_ways f__law_ways d__law_ways
  m__law_ways : mg "_law_ways" = some (.ref f__law_ways)
  k__law_ways : PySem.W.keepIn K (.ref f__law_ways) = true
  b__law_ways : Binds K d__law_ways ["_law_rows", "_law_titles"] []
  f__law_rings : Addr
  d__law_rings : FuncData
  F__law_rings : Fun K "_law_rings" "_law_rings" s__law_rings f__law_rings d__law_rings
  m__law_rings : mg "_law_rings" = some (.ref f__law_rings)
  k__law_rings : PySem.W.keepIn K (.ref f__law_rings) = true
  b__law_rings : Binds K d__law_rings ["_law_titles", "_law_ways_here"] []
  f__law_are_reached : Addr
  d__law_are_reached : FuncData
  F__law_are_reached : Fun K "_law_are_reached" "_law_are_reached" s__law_are_reached f__law_are_reached d__law_are_reached
  m__law_are_reached : mg "_law_are_reached" = some (.ref f__law_are_reached)
  k__law_are_reached : PySem.W.keepIn K (.ref f__law_are_reached) = true
  b__law_are_reached : Binds K d__law_are_reached ["_law_feed_here", "_law_rows", "_law_titles", "_law_ways_here"] []
  f__law_are_missing : Addr
  d__law_are_missing : FuncData
  F__law_are_missing : Fun K "_law_are_missing" "_law_are_missing" s__law_are_missing f__law_are_missing d__law_are_missing
  m__law_are_missing : mg "_law_are_missing" = some (.ref f__law_are_missing)
  k__law_are_missing : PySem.W.keepIn K (.ref f__law_are_missing) = true
  b__law_are_missing : Binds K d__law_are_missing ["_law_feed_here", "_law_rows", "_law_titles", "_law_ghosts"] []
  f__law_are_refused : Addr
  d__law_are_refused : FuncData
  F__law_are_refused : Fun K "_law_are_refused" "_law_are_refused" s__law_are_refused f__law_are_refused d__law_are_refused
  m__law_are_refused : mg "_law_are_refused" = some (.ref f__law_are_refused)
  k__law_are_refused : PySem.W.keepIn K (.ref f__law_are_refused) = true
  b__law_are_refused : Binds K d__law_are_refused ["_law_feed_here"] []
  f_law : Addr
  d_law : FuncData
  F_law : Fun K "law" "law" s_law f_law d_law
  m_law : mg "law" = some (.ref f_law)
  k_law : PySem.W.keepIn K (.ref f_law) = true
  b_law : Binds K d_law ["_law_script"] []
  x_NotUsable : OexC K C_NotUsable
  xk_NotUsable : ExcK K C_NotUsable
  xf_NotUsable : XfC K C_NotUsable
  i_NotUsable : PySem.W.findIn K (.ref C_NotUsable) "__init__" = some (some (.ref f_NotUsable__init__))
  t_NotUsable : PySem.W.typeIn K (.ref f_NotUsable__init__) = some (.type "function")
  n_NotUsable_word : PySem.W.findIn K (.ref C_NotUsable) "word" = some none
  n_NotUsable_at : PySem.W.findIn K (.ref C_NotUsable) "at" = some none
  ex_NotUsable_LinkError : PySem.W.exmOne K (.ref C_NotUsable) (.ref C_LinkError) = some false
  ex_NotUsable_NotUsable : PySem.W.exmOne K (.ref C_NotUsable) (.ref C_NotUsable) = some true
  is_NotUsable_UnitError : PySem.W.kitOne K (.ref C_NotUsable) (.ref C_UnitError) = some true
  is_NotUsable_Missing : PySem.W.kitOne K (.ref C_NotUsable) (.ref C_Missing) = some false
  is_NotUsable_ValueError : PySem.W.kitOne K (.ref C_NotUsable) (.type "ValueError") = some true
  x_Missing : OexC K C_Missing
  xk_Missing : ExcK K C_Missing
  xf_Missing : XfC K C_Missing
  i_Missing : PySem.W.findIn K (.ref C_Missing) "__init__" = some (some (.ref f_Missing__init__))
  t_Missing : PySem.W.typeIn K (.ref f_Missing__init__) = some (.type "function")
  n_Missing_title : PySem.W.findIn K (.ref C_Missing) "title" = some none
  ex_Missing_LinkError : PySem.W.exmOne K (.ref C_Missing) (.ref C_LinkError) = some true
  ex_Missing_NotUsable : PySem.W.exmOne K (.ref C_Missing) (.ref C_NotUsable) = some false
  is_Missing_UnitError : PySem.W.kitOne K (.ref C_Missing) (.ref C_UnitError) = some false
  is_Missing_Missing : PySem.W.kitOne K (.ref C_Missing) (.ref C_Missing) = some true
  is_Missing_ValueError : PySem.W.kitOne K (.ref C_Missing) (.type "ValueError") = some true
  t_LETTERS : Tok
  c_LETTERS : mg "LETTERS" = some (.str "abcdefghijklmnopqrstuvwxyz" t_LETTERS)
  t_DIGITS : Tok
  c_DIGITS : mg "DIGITS" = some (.str "0123456789" t_DIGITS)
  t_LONGEST_TITLE : Tok
  c_LONGEST_TITLE : mg "LONGEST_TITLE" = some (.int 12 t_LONGEST_TITLE)
  a_KEPT_WORDS : Addr
  c_KEPT_WORDS : mg "KEPT_WORDS" = some (.ref a_KEPT_WORDS)
  s_KEPT_WORDS : ∀ H, SqT K H a_KEPT_WORDS ((["unit", "shape", "use", "function", "take", "gives", "end", "let", "set", "if", "else", "loop", "when", "case", "tell", "give", "number", "name", "call", "word", "add", "sub", "mul", "div", "rem", "less", "same"] : List Str).map V.str)
  z_isinstance : mg "isinstance" = none
  z_int : mg "int" = none
  z_bool : mg "bool" = none
  z_all : mg "all" = none
  z_str : mg "str" = none
  z_len : mg "len" = none
  z_tuple : mg "tuple" = none
  z_sorted : mg "sorted" = none
  z_list : mg "list" = none
  z_abs : mg "abs" = none
  z_repr : mg "repr" = none
  z_ValueError : mg "ValueError" = none
  z_range : mg "range" = none
theorem hu1 {A : Around} {k : Nat} (hr : Room k A) : A.units + 1 < cLine := by have := hr.un; omega
theorem none_of {H H1 : Hp} {d : Addr} (e : Same H H1) (h : H1 d = none) : H d = none := by
  cases c : H d with
  | none => rfl
  | some o => rw [e _ _ c] at h; cases h
theorem tup_inv {K : PySem.W.Frag} {H : Hp} {x : V} {ds : List PyData} (h : Dp K H x (.tuple ds)) : ∃ (a : Addr) (xs : List V), x = .ref a ∧ SqT K H a xs ∧ DpAll K H xs ds := by
  cases h with
  | tup h a => exact ⟨_, _, rfl, h, a⟩
end Lk

set_option Elab.async false
set_option linter.all false
set_option maxRecDepth 100000
set_option maxHeartbeats 4000000
set_option pp.maxSteps 1500
namespace Lk
open PySem PySem.Spec PyProof.Rows L2
/-! ### data -/
def letters : Str := "abcdefghijklmnopqrstuvwxyz"
def digits : Str := "0123456789"
def keptL : List Str := ["unit", "shape", "use", "function", "take", "gives", "end", "let", "set", "if", "else", "loop", "when", "case", "tell", "give", "number", "name", "call", "word", "add", "sub", "mul", "div", "rem", "less", "same"]
def signB (c : Nat) : Bool := decide (c ∈ letters.cps.toList) || decide (c ∈ digits.cps.toList)
def headB (z : Str) : Bool := match z.cps.toList with
  | c :: _ => decide (c ∈ letters.cps.toList)
  | [] => false
def titleB (z : Str) : Bool := decide (1 ≤ z.length) && (decide (z.length ≤ 12) && (headB z && (!decide (z ∈ keptL) && z.cps.toList.all signB)))
def isTi : PyData → Bool
  | .str z => titleB z
  | _ => false
inductive Sz : PyData → Prop
  | non : Sz .none
  | bl (b) : Sz (.bool b)
  | int (i) : Sz (.int i)
  | str (z : Str) (h : z.length ≤ 1000) : Sz (.str z)
  | lst (ds) : Sz (.list ds)
  | tup (ds : List PyData) (h : ds.length ≤ 1000) (a : ∀ d ∈ ds, Sz d) : Sz (.tuple ds)
/-! ### promises -/
def notUsable (C : Addr) (n : Str) (H : Hp) (E : XK) : Prop := ∀ (d : Addr) (H' : Hp), Same H H' → H d = none → H' d = some (.xd [("at", .int (-1)), ("word", .str n)]) → E (.ref C) (some d) H'
def missing (C : Addr) (v : V) (H : Hp) (E : XK) : Prop := ∀ (d : Addr) (H' : Hp), Same H H' → H d = none → H' d = some (.xd [("title", v)]) → E (.ref C) (some d) H'
def spInit (C : Addr) : Sp := fun vs H Q _ => ∃ (a : Addr) (x y : V), vs = [.ref a, x, y] ∧ H a = some (exo a C none) ∧
  ∀ (d : Addr) (H' : Hp), H d = none → d ≠ a → H' a = some (exo a C (some d)) → H' d = some (exd d [("at", y), ("word", x)]) → (∀ b o, b ≠ a → H b = some o → H' b = some o) → Q .non H'
def spInit1 (C : Addr) : Sp := fun vs H Q _ => ∃ (a : Addr) (x : V), vs = [.ref a, x] ∧ H a = some (exo a C none) ∧
  ∀ (d : Addr) (H' : Hp), H d = none → d ≠ a → H' a = some (exo a C (some d)) → H' d = some (exd d [("title", x)]) → (∀ b o, b ≠ a → H b = some o → H' b = some o) → Q .non H'
def sp1 (g : PyData → Bool) (K : PySem.W.Frag) : Sp := fun vs H Q _ => ∃ (x : V) (d : PyData), vs = [x] ∧ Dp K H x d ∧ Q (.bl (g d)) H
/-- a test that makes things: of data of some size -/
def spG (g : PyData → Bool) (K : PySem.W.Frag) : Sp := fun vs H Q _ => ∃ (x : V) (d : PyData), vs = [x] ∧ Dp K H x d ∧ Sz d ∧ ∀ H', Same H H' → Q (.bl (g d)) H'
theorem kit_tup {K : PySem.W.Frag} {H : Hp} {v : V} {d : PyData} (h : Dp K H v d) : PySem.W.kitOne K (.type (tyN d)) (.type "tuple") = some (match d with | .tuple _ => true | _ => false) := by
  cases h with
  | non => exact kit_ty (a := "NoneType") (b := "tuple") (r := false) (by decide +kernel)
  | bl b => exact kit_ty (a := "bool") (b := "tuple") (r := false) (by decide +kernel)
  | int i => exact kit_ty (a := "int") (b := "tuple") (r := false) (by decide +kernel)
  | str x => exact kit_ty (a := "str") (b := "tuple") (r := false) (by decide +kernel)
  | lst h a => exact kit_ty (a := "list") (b := "tuple") (r := false) (by decide +kernel)
  | tup h a => exact kit_ty (a := "tuple") (b := "tuple") (r := true) (by decide +kernel)
theorem kit_str {K : PySem.W.Frag} {H : Hp} {v : V} {d : PyData} (h : Dp K H v d) : PySem.W.kitOne K (.type (tyN d)) (.type "str") = some (match d with | .str _ => true | _ => false) := by
  cases h with
  | non => exact kit_ty (a := "NoneType") (b := "str") (r := false) (by decide +kernel)
  | bl b => exact kit_ty (a := "bool") (b := "str") (r := false) (by decide +kernel)
  | int i => exact kit_ty (a := "int") (b := "str") (r := false) (by decide +kernel)
  | str x => exact kit_ty (a := "str") (b := "str") (r := true) (by decide +kernel)
  | lst h a => exact kit_ty (a := "list") (b := "str") (r := false) (by decide +kernel)
  | tup h a => exact kit_ty (a := "tuple") (b := "str") (r := false) (by decide +kernel)
theorem eqV_str (x y : Str) : eqV (.str x) (.str y) = decide (x = y) := by
  show (x == y) = _
  rw [Bool.eq_iff_iff, beq_iff_eq, decide_eq_true_iff]
theorem in_strs (x : Str) (l : List Str) : inV (.str x) (l.map V.str) = decide (x ∈ l) := by
  unfold inV
  induction l with
  | nil => rfl
  | cons y l ih =>
    rw [List.map_cons, List.any_cons, ih, eqV_str]
    by_cases h : y = x
    · subst h; simp
    · have h2 : ¬ x = y := fun z => h z.symm
      simp [h, h2]
theorem flat_strs (l : List Str) : (l.map V.str).all flatV = true := by
  rw [List.all_map]
  exact List.all_eq_true.mpr fun _ _ => rfl
section
variable {P : Program} {w : World} {K : PySem.W.Frag} {mg : Str → Option Value} {base : Heap}
theorem ok_init (T : Txt K mg) : FnOk P w K mg base CX0 1 T.f_NotUsable__init__ T.d_NotUsable__init__ ["self", "word", "at"] (spInit T.C_NotUsable) := by
  have nd := sc_NotUsable___init__.nd
  refine T.F_NotUsable__init__.ok sc_NotUsable___init__ (fun vs H Q E h => ?_) (fun cdv A outer s H vs Q E hr h => ?_)
  · obtain ⟨a, x, y, rfl, _⟩ := h
    rfl
  obtain ⟨a, x, y, rfl, ha, k⟩ := h
  refine ⟨_, (pss_cons (ps_ost (pv 0) (pv 1))
      (pss_one (ps_ost (pv 0) (pv 2)))), ?_⟩
  refine ⟨_, rfl, _, rfl, a, T.C_NotUsable, rfl, T.x_NotUsable, T.n_NotUsable_word, .inl ⟨ha, fun d hd hda => ?_⟩⟩
  refine ⟨_, rfl, _, rfl, a, T.C_NotUsable, rfl, T.x_NotUsable, T.n_NotUsable_at, .inr ⟨d, [("word", x)], ?_, ?_, (by show 1 ≤ 900; decide), ?_⟩⟩
  · exact upd_same
  · rw [upd_ne hda]; exact upd_same
  · refine k d _ hd hda ?_ ?_ ?_
    · rw [upd_ne hda.symm, upd_same]
    · exact upd_same
    · intro b o hb e
      have hbd : b ≠ d := ne_of_none e hd
      rw [upd_ne hbd, upd_ne hb, upd_ne hbd]
      exact e
theorem ok_init1 (T : Txt K mg) : FnOk P w K mg base CX0 1 T.f_Missing__init__ T.d_Missing__init__ ["self", "title"] (spInit1 T.C_Missing) := by
  have nd := sc_Missing___init__.nd
  refine T.F_Missing__init__.ok sc_Missing___init__ (fun vs H Q E h => ?_) (fun cdv A outer s H vs Q E hr h => ?_)
  · obtain ⟨a, x, rfl, _⟩ := h
    rfl
  obtain ⟨a, x, rfl, ha, k⟩ := h
  refine ⟨_, (pss_one (ps_ost (pv 0) (pv 1))), ?_⟩
  refine ⟨_, rfl, _, rfl, a, T.C_Missing, rfl, T.x_Missing, T.n_Missing_title, .inl ⟨ha, fun d hd hda => ?_⟩⟩
  refine k d _ hd hda ?_ ?_ ?_
  · exact upd_same
  · rw [upd_ne hda]; exact upd_same
  · intro b o hb e
    have hbd : b ≠ d := ne_of_none e hd
    rw [upd_ne hb, upd_ne hbd]
    exact e
/-- what a made and raised NotUsable asks -/
theorem made {T : Txt K mg} {H : Hp} {n : Str} {E : XK} (k : notUsable T.C_NotUsable n H E) :
    ∀ a, H a = none → spInit T.C_NotUsable [.ref a, .str n, .int (-1)] (upd H a (exo a T.C_NotUsable none))
      (fun v H2 => v = .non ∧ ∃ (d : Addr) (fs : List (Str × V)), H2 a = some (exo a T.C_NotUsable (some d)) ∧ H2 d = some (exd d fs) ∧ H d = none ∧ E (.ref T.C_NotUsable) (some d) (upd (del H2 a) d (.xd fs))) (fun _ _ _ => False) := by
  intro a ha
  refine ⟨a, _, _, rfl, upd_same, fun d H' hd hda e1 e2 e3 => ⟨rfl, d, _, e1, e2, ?_, ?_⟩⟩
  · rw [upd_ne hda] at hd
    exact hd
  · rw [upd_ne hda] at hd
    refine k d _ (fun b o e => ?_) hd upd_same
    have hbd : b ≠ d := ne_of_none e hd
    have hba : b ≠ a := ne_of_none e ha
    rw [upd_ne hbd, del_ne hba]
    exact e3 b o hba (by rw [upd_ne hba]; exact e)
theorem made1 {T : Txt K mg} {H : Hp} {x : V} {E : XK} (k : missing T.C_Missing x H E) :
    ∀ a, H a = none → spInit1 T.C_Missing [.ref a, x] (upd H a (exo a T.C_Missing none))
      (fun v H2 => v = .non ∧ ∃ (d : Addr) (fs : List (Str × V)), H2 a = some (exo a T.C_Missing (some d)) ∧ H2 d = some (exd d fs) ∧ H d = none ∧ E (.ref T.C_Missing) (some d) (upd (del H2 a) d (.xd fs))) (fun _ _ _ => False) := by
  intro a ha
  refine ⟨a, _, rfl, upd_same, fun d H' hd hda e1 e2 e3 => ⟨rfl, d, _, e1, e2, ?_, ?_⟩⟩
  · rw [upd_ne hda] at hd
    exact hd
  · rw [upd_ne hda] at hd
    refine k d _ (fun b o e => ?_) hd upd_same
    have hbd : b ≠ d := ne_of_none e hd
    have hba : b ≠ a := ne_of_none e ha
    rw [upd_ne hbd, del_ne hba]
    exact e3 b o hba (by rw [upd_ne hba]; exact e)
theorem ok_is_integer (T : Txt K mg) : FnOk P w K mg base CX0 1 T.f_is_integer T.d_is_integer ["thing"] (sp1 isI K) := by
  have nd := sc_is_integer.nd
  refine T.F_is_integer.ok sc_is_integer (fun vs H Q E h => ?_) (fun cdv A outer s H vs Q E hr h => ?_)
  · obtain ⟨x, d, rfl, _⟩ := h
    rfl
  obtain ⟨x, d, rfl, hd, k⟩ := h
  refine ⟨_, (pss_one (ps_ret (pe_and (pe_callB call_isi (by rfl) T.z_isinstance (by decide +kernel) (pa_cons (pv 0) (pa_cons (pe_bltn (v := .ty "int") rfl T.z_int (by decide +kernel) rfl) pa_nil))) (pe_one (pe_not (pe_callB call_isi (by rfl) T.z_isinstance (by decide +kernel) (pa_cons (pv 0) (pa_cons (pe_bltn (v := .ty "bool") rfl T.z_bool (by decide +kernel) rfl) pa_nil)))))))), ?_⟩
  refine ⟨_, rfl, x, .ty "int", _, _, _, rfl, .ty "int", ty_of hd, kit_int hd, _, rfl, ?_⟩
  refine ite2 (fun c => ?_) (fun c => ?_)
  · refine ⟨_, rfl, x, .ty "bool", _, _, _, rfl, .ty "bool", ty_of hd, kit_bool hd, _, rfl, ?_⟩
    have e : (!isB d) = isI d := by cases hd <;> first | rfl | (simp [isI, isB] at c)
    rw [e]
    exact k
  · have e : isI d = false := by cases hd <;> first | rfl | (exact absurd rfl c)
    rw [e] at k
    exact k
theorem ok_is_number (T : Txt K mg) : FnOk P w K mg base CX0 2 T.f_is_number T.d_is_number ["thing"] (sp1 isN K) := by
  have nd := sc_is_number.nd
  refine T.F_is_number.ok sc_is_number (fun vs H Q E h => ?_) (fun cdv A outer s H vs Q E hr h => ?_)
  · obtain ⟨x, d, rfl, _⟩ := h
    rfl
  obtain ⟨x, d, rfl, hd, k⟩ := h
  have G_is_integer : FnOk P w K mg base CX0 1 _ _ _ (sp1 isI K) := ok_is_integer T
  have hr_is_integer := hr
  refine ⟨_, (pss_one (ps_ret (pe_and (pe_call G_is_integer hr_is_integer rfl T.m_is_integer T.k_is_integer T.b_is_integer .nil pass0 (pa_cons (pv 0) pa_nil)) (pe_one (pe_cmpR op_ge (pv 0) pe_int (nomark _)))))), ?_⟩
  refine ⟨_, rfl, x, d, rfl, hd, _, rfl, ?_⟩
  refine ite2 (fun c => ?_) (fun c => ?_)
  · obtain ⟨i, rfl, rfl⟩ := isI_int hd c
    exact ⟨_, rfl, _, _, rfl, rfl, k⟩
  · have e : isN d = false := by cases hd <;> first | rfl | (exact absurd rfl c)
    rw [e] at k
    exact k
theorem ok_is_title (T : Txt K mg) : FnOk P w K mg base CX0 1 T.f_is_title T.d_is_title ["thing"] (spG isTi K) := by
  have nd := sc_is_title.nd
  refine T.F_is_title.ok sc_is_title (fun vs H Q E h => ?_) (fun cdv A outer s H vs Q E hr h => ?_)
  · obtain ⟨x, d, rfl, _⟩ := h
    rfl
  obtain ⟨x, d, rfl, hd, hz, k⟩ := h
  refine ⟨_, (pss_cons (ps_if (PW.pt (pw_or (pt_not (pt_val (pe_callB call_isi (by rfl) T.z_isinstance (by decide +kernel) (pa_cons (pv 0) (pa_cons (pe_bltn (v := .ty "str") rfl T.z_str (by decide +kernel) rfl) pa_nil))))) (pw_or1 (pt_not (pt_chain op_le op_le pe_int (pe_callB call_len_str (by rfl) T.z_len PySem.boot_len (pa_cons (pv 0) pa_nil)) (pe_glob (v := .int (12)) rfl T.c_LONGEST_TITLE ⟨_, rfl⟩)))))) (pss_one (ps_ret pe_bl)) pss_nil)
      (pss_cons (ps_if (PW.pt (pw_or (pt_cmpR op_notIn_sign (pe_ix ix_str (pv 0) pe_int (fun _ _ => rfl)) (pe_glob (v := .str "abcdefghijklmnopqrstuvwxyz") rfl T.c_LETTERS ⟨_, rfl⟩) (by rfl)) (pw_or1 (pt_cmpR op_in_seq (pv 0) (pe_glob (v := .ref T.a_KEPT_WORDS) rfl T.c_KEPT_WORDS rfl) (by rfl))))) (pss_one (ps_ret pe_bl)) pss_nil)
      (pss_one (ps_ret (pe_callB (cr_all rfl) (by rfl) T.z_all (by decide +kernel) (pa_cons (pe_lc (own := [("letter", 1)]) (g := gName 1) (tt := tYes) (by rfl) nd (pi_str (pv 0)) (blkOk_by (own := [("letter", 1)]) (N := sl_is_title) (sc := defScope s_is_title) (by decide +kernel)) (fun _ _ _ _ _ => pg_name (i := 1) nd rfl (Or.inl rfl)) (fun _ _ _ _ _ => pts_nil) (fun _ _ _ _ _ => (pe_or (pe_cmpR op_in_sign (pv 1) (pe_glob (v := .str "abcdefghijklmnopqrstuvwxyz") rfl T.c_LETTERS ⟨_, rfl⟩) (by rfl)) (pe_one (pe_cmpR op_in_sign (pv 1) (pe_glob (v := .str "0123456789") rfl T.c_DIGITS ⟨_, rfl⟩) (by rfl)))))) pa_nil)))))), ?_⟩
  refine ⟨_, rfl, x, .ty "str", _, _, _, rfl, .ty "str", ty_of hd, kit_str hd, ?_⟩
  cases hd with
  | non => exact ⟨_, rfl, iteT (k H (Same.refl _))⟩
  | bl b => exact ⟨_, rfl, iteT (k H (Same.refl _))⟩
  | int i => exact ⟨_, rfl, iteT (k H (Same.refl _))⟩
  | lst h a => exact ⟨_, rfl, iteT (k H (Same.refl _))⟩
  | tup h a => exact ⟨_, rfl, iteT (k H (Same.refl _))⟩
  | str z =>
    refine ⟨_, rfl, iteF ?_⟩
    have hzl : z.length ≤ 1000 := by cases hz; assumption
    have no : titleB z = false → ∀ H', Same H H' → Q (.bl false) H' := fun e H' s1 => by
      have := k H' s1
      rw [show isTi (.str z) = titleB z from rfl, e] at this
      exact this
    refine ⟨_, rfl, _, rfl, Nat.le_of_lt (szl (by omega)), _, _, rfl, rfl, _, rfl, ?_⟩
    refine ite2 (fun c1 => ?_) (fun c1 => ?_)
    · refine ⟨_, _, rfl, rfl, _, rfl, ?_⟩
      cases c2 : decide ((z.length : Int) ≤ 12) with
      | false =>
        refine iteT (no ?_ H (Same.refl _))
        unfold titleB
        have : decide (z.length ≤ 12) = false := decide_eq_false fun q => by have := of_decide_eq_false c2; omega
        rw [this, Bool.false_and, Bool.and_false]
      | true =>
        refine iteF ?_
        have h1 : 1 ≤ z.length := by have := of_decide_eq_true c1; omega
        have h2 : z.length ≤ 12 := by have := of_decide_eq_true c2; omega
        have hl : z.cps.toList.length = z.length := by simp [Str.length]
        obtain ⟨c, r, ec⟩ : ∃ c r, z.cps.toList = c :: r := by
          cases e : z.cps.toList with
          | nil => rw [e] at hl; simp at hl; omega
          | cons c r => exact ⟨c, r, rfl⟩
        have hh : headB z = decide (c ∈ letters.cps.toList) := by unfold headB; rw [ec]
        have tt : titleB z = (headB z && (!decide (z ∈ keptL) && z.cps.toList.all signB)) := by
          unfold titleB
          rw [decide_eq_true h1, decide_eq_true h2, Bool.true_and, Bool.true_and]
        refine ⟨_, rfl, z, 0, c, rfl, rfl, Nat.le_of_lt (szl (by omega)), (by rw [ec]; exact atI_nat (show (c :: r)[0]? = some c from rfl)), c, _, rfl, rfl, _, rfl, ?_⟩
        refine ite2 (fun c3 => ?_) (fun c3 => ?_)
        · refine iteT (no ?_ H (Same.refl _))
          rw [tt, hh, show decide (c ∈ letters.cps.toList) = false by rw [← Bool.not_eq_true']; exact c3, Bool.false_and]
        have c3' : headB z = true := by rw [hh]; cases e : decide (c ∈ letters.cps.toList) with
          | true => rfl
          | false => exact absurd (show (!decide (c ∈ letters.cps.toList)) = true by rw [e]; rfl) c3
        refine ⟨_, rfl, T.a_KEPT_WORDS, _, rfl, .inr (T.s_KEPT_WORDS H), rfl, flat_strs _, decide (z ∈ keptL), congrArg V.bl (in_strs z keptL), ?_⟩
        cases c4 : decide (z ∈ keptL) with
        | true =>
          refine iteT (no ?_ H (Same.refl _))
          rw [tt, c4, Bool.not_true, Bool.false_and, Bool.and_false]
        | false =>
          refine iteF ?_
          have yes : titleB z = z.cps.toList.all signB := by rw [tt, c3', c4, Bool.not_false, Bool.true_and, Bool.true_and]
          rw [show isTi (.str z) = titleB z from rfl, yes] at k
          refine ⟨_, rfl, ⟨z, rfl, fun D hD => ?_⟩⟩
          refine lc_it (walk_str (z := z)) (fun i H' => Same H H' ∧ H' D = some (.lst (((z.cps.toList.take i).map signB).map V.bl))) ?_ ?_ ?_ ?_
          · exact ⟨same_new hD _, upd_same⟩
          · exact fun _ _ _ _ => trivial
          · rintro i x H2 H1 hi ⟨e, hDl⟩ ⟨rfl, c', hc', rfl⟩
            refine ⟨rfl, ?_⟩
            have fin : ∀ b, b = signB c' → (((z.cps.toList.take i).map signB).map V.bl).length < sizeLine ∧ Same H (upd H1 D (.lst (((z.cps.toList.take i).map signB).map V.bl ++ [V.bl b]))) ∧
                (upd H1 D (.lst (((z.cps.toList.take i).map signB).map V.bl ++ [V.bl b]))) D = some (.lst (((z.cps.toList.take (i + 1)).map signB).map V.bl)) := fun b hb => by
              subst hb
              refine ⟨by rw [List.length_map, List.length_map, List.length_take]; exact szl (by omega), same_mut e hD, ?_⟩
              have hc2 : z.cps.toList[i]? = some c' := by simpa using hc'
              rw [upd_same, List.take_succ, hc2, List.map_append, List.map_append]
              rfl
            refine ⟨_, rfl, c', letters, rfl, rfl, _, rfl, ?_⟩
            refine ite2 (fun c5 => ?_) (fun c5 => ?_)
            · exact ⟨_, hDl, fin true (by unfold signB; rw [c5, Bool.true_or])⟩
            · exact ⟨_, rfl, c', digits, rfl, rfl, _, hDl, fin _ (by unfold signB; rw [Bool.eq_false_iff.mpr c5, Bool.false_or])⟩
          · rintro H1 ⟨e, hDl⟩
            rw [show z.cps.size = z.cps.toList.length by simp, List.take_length] at hDl
            refine ⟨D, _, rfl, SqL.of hDl, ?_⟩
            have ea : ((z.cps.toList.map signB).all id) = z.cps.toList.all signB := by rw [List.all_map]; rfl
            rw [ea]
            exact k H1 e
    · refine ⟨_, rfl, iteT (no ?_ H (Same.refl _))⟩
      unfold titleB
      have : decide (1 ≤ z.length) = false := decide_eq_false fun q => c1 (decide_eq_true (by omega))
      rw [this, Bool.false_and]
end
end Lk

set_option Elab.async false
set_option linter.all false
set_option maxRecDepth 100000
set_option maxHeartbeats 4000000
set_option pp.maxSteps 1500
namespace Lk
open PySem PySem.Spec PyProof.Rows L2
def isCallD : PyData → Bool
  | .tuple [a, b] => isTi a && isN b
  | _ => false
def callsD : PyData → Bool
  | .tuple ds => ds.all isCallD
  | _ => false
def isSheetD : PyData → Bool
  | .tuple [a, b, c] => isTi a && (isN b && callsD c)
  | _ => false
def ttlD : PyData → Str
  | .tuple (.str z :: _) => z
  | _ => ""
def isSheetsD : PyData → Bool
  | .tuple ds => ds.all isSheetD && decide (ds.map ttlD).Nodup
  | _ => false
def ckS (ks : List Str) : List (Key × V) := ks.map fun z => (Sum.inr z, V.bl true)
def addS (acc : List Str) (z : Str) : List Str := if z ∈ acc then acc else acc ++ [z]
def dedS (ks : List Str) : List Str := ks.foldl addS []
theorem ckS_val (ks : List Str) (z : Str) : valV (ckS ks) (Sum.inr z) = if z ∈ ks then some (V.bl true) else none := by
  induction ks with
  | nil => rfl
  | cons y ks ih =>
    show valV ((Sum.inr y, V.bl true) :: ckS ks) (Sum.inr z) = _
    by_cases e : y = z
    · rw [valV_pos (by rw [e]), e]; simp
    · rw [valV_neg (fun q => e (Sum.inr.inj q)), ih]
      have : z ≠ y := fun q => e q.symm
      simp [this]
theorem ckS_put (ks : List Str) (z : Str) : putK (ckS ks) (Sum.inr z) (V.bl true) = ckS (addS ks z) := by
  unfold addS
  by_cases h : z ∈ ks
  · rw [if_pos h]
    unfold putK
    rw [valV_any, ckS_val, if_pos h]
    show (ckS ks).map _ = _
    unfold ckS
    rw [List.map_map]
    refine List.map_congr_left fun y _ => ?_
    show (if (Sum.inr y : Key) = Sum.inr z then ((Sum.inr y : Key), V.bl true) else (Sum.inr y, V.bl true)) = _
    split <;> rfl
  · rw [if_neg h, putK_new _ (by rw [ckS_val, if_neg h])]
    unfold ckS
    rw [List.map_append]
    rfl
theorem ded_snoc (ks : List Str) (z : Str) : dedS (ks ++ [z]) = addS (dedS ks) z := by unfold dedS; rw [List.foldl_append]; rfl
theorem ded_len (ks : List Str) : (dedS ks).length ≤ ks.length ∧ ((dedS ks).length = ks.length ↔ ks.Nodup) ∧ ∀ z, z ∈ dedS ks ↔ z ∈ ks := by
  suffices ∀ n, ∀ ks : List Str, ks.length = n → (dedS ks).length ≤ ks.length ∧ ((dedS ks).length = ks.length ↔ ks.Nodup) ∧ ∀ z, z ∈ dedS ks ↔ z ∈ ks from this _ ks rfl
  intro n
  induction n with
  | zero =>
    intro ks h
    obtain rfl := List.eq_nil_of_length_eq_zero h
    exact ⟨Nat.le_refl _, ⟨fun _ => List.nodup_nil, fun _ => rfl⟩, fun _ => Iff.rfl⟩
  | succ n ih =>
    intro ks h
    have hne : ks ≠ [] := fun e => by rw [e] at h; cases h
    obtain ⟨l, z, rfl⟩ : ∃ l z, ks = l ++ [z] := ⟨_, _, (List.dropLast_concat_getLast hne).symm⟩
    obtain ⟨h1, h2, h3⟩ := ih l (by rw [List.length_append] at h; simpa using h)
    rw [ded_snoc]
    unfold addS
    by_cases m : z ∈ dedS l
    · rw [if_pos m]
      refine ⟨by rw [List.length_append]; omega, ⟨fun e => ?_, fun nd => ?_⟩, fun y => ?_⟩
      · rw [List.length_append] at e; simp at e; omega
      · exact absurd rfl ((List.nodup_append.mp nd).2.2 z ((h3 z).mp m) z List.mem_cons_self)
      · rw [h3, List.mem_append]
        exact ⟨.inl, fun q => q.elim id fun q => by rw [List.mem_singleton.mp q]; exact (h3 z).mp m⟩
    · rw [if_neg m]
      refine ⟨by rw [List.length_append, List.length_append]; simp; omega, ?_, fun y => by rw [List.mem_append, List.mem_append, h3]⟩
      rw [List.length_append, List.length_append, List.nodup_append]
      refine ⟨fun e => ⟨h2.mp (by simpa using e), by simp, fun a ha b hb q => m ((h3 z).mpr ?_)⟩, fun q => ?_⟩
      · rw [← List.mem_singleton.mp hb, ← q]; exact ha
      · rw [h2.mpr q.1]
section
variable {P : Program} {w : World} {K : PySem.W.Frag} {mg : Str → Option Value} {base : Heap}
theorem sz_in {ds : List PyData} (h : Sz (.tuple ds)) : ds.length ≤ 1000 ∧ ∀ d ∈ ds, Sz d := by
  cases h with
  | tup _ h a => exact ⟨h, a⟩
theorem ne_t {i j : Int} (h : i ≠ j) : (!decide (V.int i = V.int j)) = true := by rw [decide_eq_false fun z => h (V.int.inj z)]; rfl
theorem ne_f {i j : Int} (h : i = j) : (!decide (V.int i = V.int j)) = false := by rw [decide_eq_true (congrArg V.int h)]; rfl
theorem ok_is_call (T : Txt K mg) : FnOk P w K mg base CX0 3 T.f__is_call T.d__is_call ["thing"] (spG isCallD K) := by
  have nd := sc__is_call.nd
  refine T.F__is_call.ok sc__is_call (fun vs H Q E h => ?_) (fun cdv A outer s H vs Q E hr h => ?_)
  · obtain ⟨x, d, rfl, _⟩ := h
    rfl
  obtain ⟨x, d, rfl, hd, hz, k⟩ := h
  have G_is_number : FnOk P w K mg base CX0 2 _ _ _ (sp1 isN K) := ok_is_number T
  have hr_is_number := hr
  have G_is_title : FnOk P w K mg base CX0 1 _ _ _ (spG isTi K) := ok_is_title T
  have hr_is_title := hr.mono (j := 1) (by omega)
  refine ⟨_, (pss_one (ps_ret (pe_and (pe_callB call_isi (by rfl) T.z_isinstance (by decide +kernel) (pa_cons (pv 0) (pa_cons (pe_bltn (v := .ty "tuple") rfl T.z_tuple (by decide +kernel) rfl) pa_nil))) (pe_and (pe_cmpR op_eq (pe_callB call_len_seq (by rfl) T.z_len PySem.boot_len (pa_cons (pv 0) pa_nil)) pe_int (nomark _)) (pe_and (pe_call G_is_title hr_is_title rfl T.m_is_title T.k_is_title T.b_is_title .nil pass0 (pa_cons (pe_ix ix_tup (pv 0) pe_int (fun _ _ => rfl)) pa_nil)) (pe_one (pe_call G_is_number hr_is_number rfl T.m_is_number T.k_is_number T.b_is_number .nil pass0 (pa_cons (pe_ix ix_tup (pv 0) pe_int (fun _ _ => rfl)) pa_nil)))))))), ?_⟩
  refine ⟨_, rfl, x, .ty "tuple", _, _, _, rfl, .ty "tuple", ty_of hd, kit_tup hd, _, rfl, ?_⟩
  cases hd with
  | non => exact k H (Same.refl _)
  | bl b => exact k H (Same.refl _)
  | int i => exact k H (Same.refl _)
  | str z => exact k H (Same.refl _)
  | lst h a => exact k H (Same.refl _)
  | @tup a xs ds ha hx =>
    have hl := dp_len hx
    refine iteT ?_
    refine ⟨_, rfl, a, xs, rfl, .inr ha, rfl, _, rfl, ?_⟩
    obtain ⟨_, hzs⟩ := sz_in hz
    match ds, hx, hl, k, hzs with
    | [d0, d1], hx, hl, k, hzs =>
      obtain ⟨x0, x1, rfl⟩ : ∃ x0 x1, xs = [x0, x1] := by
        match xs, hl with
        | [x0, x1], _ => exact ⟨x0, x1, rfl⟩
      obtain ⟨h0, h1⟩ : Dp K H x0 d0 ∧ Dp K H x1 d1 := by
        cases hx with
        | cons h0 t => cases t with
          | cons h1 _ => exact ⟨h0, h1⟩
      refine iteT ?_
      refine ⟨_, rfl, a, _, _, _, rfl, rfl, ha, atI_nat (show [x0, x1][0]? = some x0 from rfl), x0, d0, rfl, h0, hzs _ List.mem_cons_self, fun H1 e1 => ⟨_, rfl, ?_⟩⟩
      have e : isCallD (.tuple [d0, d1]) = (isTi d0 && isN d1) := rfl
      rw [e] at k
      cases c : isTi d0 with
      | false =>
        rw [c, Bool.false_and] at k
        exact k H1 e1
      | true =>
        rw [c, Bool.true_and] at k
        exact ⟨_, rfl, a, _, _, _, rfl, rfl, seqT_same e1 ha, atI_nat (show [x0, x1][1]? = some x1 from rfl), x1, d1, rfl, dp_same e1 h1, k H1 e1⟩
    | [], _, hl, k, _ => exact ite2 (fun c => absurd (of_decide_eq_true c) fun z => by have := V.int.inj z; rw [hl] at this; simp at this) fun _ => k H (Same.refl _)
    | [d0], _, hl, k, _ => exact ite2 (fun c => absurd (of_decide_eq_true c) fun z => by have := V.int.inj z; rw [hl] at this; simp at this) fun _ => k H (Same.refl _)
    | d0 :: d1 :: d2 :: r, _, hl, k, _ => exact ite2 (fun c => absurd (of_decide_eq_true c) fun z => by have := V.int.inj z; rw [hl] at this; simp at this; omega) fun _ => k H (Same.refl _)
theorem ok_is_sheet (T : Txt K mg) : FnOk P w K mg base CX0 4 T.f_is_sheet T.d_is_sheet ["thing"] (spG isSheetD K) := by
  have nd := sc_is_sheet.nd
  refine T.F_is_sheet.ok sc_is_sheet (fun vs H Q E h => ?_) (fun cdv A outer s H vs Q E hr h => ?_)
  · obtain ⟨x, d, rfl, _⟩ := h
    rfl
  obtain ⟨x, d, rfl, hd, hz, k⟩ := h
  have G_is_number : FnOk P w K mg base CX0 2 _ _ _ (sp1 isN K) := ok_is_number T
  have hr_is_number := hr.mono (j := 2) (by omega)
  have G_is_title : FnOk P w K mg base CX0 1 _ _ _ (spG isTi K) := ok_is_title T
  have hr_is_title := hr.mono (j := 1) (by omega)
  have G__is_call : FnOk P w K mg base CX0 3 _ _ _ (spG isCallD K) := ok_is_call T
  have hr__is_call := hr
  refine ⟨_, (pss_cons (ps_if (PW.pt (pw_or (pt_not (pt_val (pe_callB call_isi (by rfl) T.z_isinstance (by decide +kernel) (pa_cons (pv 0) (pa_cons (pe_bltn (v := .ty "tuple") rfl T.z_tuple (by decide +kernel) rfl) pa_nil))))) (pw_or (pt_cmpR op_ne (pe_callB call_len_seq (by rfl) T.z_len PySem.boot_len (pa_cons (pv 0) pa_nil)) pe_int (nomark _)) (pw_or (pt_not (pt_val (pe_call G_is_title hr_is_title rfl T.m_is_title T.k_is_title T.b_is_title .nil pass0 (pa_cons (pe_ix ix_tup (pv 0) pe_int (fun _ _ => rfl)) pa_nil)))) (pw_or1 (pt_not (pt_val (pe_call G_is_number hr_is_number rfl T.m_is_number T.k_is_number T.b_is_number .nil pass0 (pa_cons (pe_ix ix_tup (pv 0) pe_int (fun _ _ => rfl)) pa_nil))))))))) (pss_one (ps_ret pe_bl)) pss_nil)
      (pss_one (ps_ret (pe_and (pe_callB call_isi (by rfl) T.z_isinstance (by decide +kernel) (pa_cons (pe_ix ix_tup (pv 0) pe_int (fun _ _ => rfl)) (pa_cons (pe_bltn (v := .ty "tuple") rfl T.z_tuple (by decide +kernel) rfl) pa_nil))) (pe_one (pe_callB (cr_all rfl) (by rfl) T.z_all (by decide +kernel) (pa_cons (pe_lc (own := [("call", 1)]) (g := gName 1) (tt := tYes) (by rfl) nd (pi_tup (pe_ix ix_tup (pv 0) pe_int (fun _ _ => rfl))) (blkOk_by (own := [("call", 1)]) (N := sl_is_sheet) (sc := defScope s_is_sheet) (by decide +kernel)) (fun _ _ _ _ _ => pg_name (i := 1) nd rfl (Or.inl rfl)) (fun _ _ _ _ _ => pts_nil) (fun _ _ _ _ _ => (pe_call G__is_call hr__is_call rfl T.m__is_call T.k__is_call T.b__is_call .nil pass0 (pa_cons (pv 1) pa_nil)))) pa_nil))))))), ?_⟩
  refine ⟨_, rfl, x, .ty "tuple", _, _, _, rfl, .ty "tuple", ty_of hd, kit_tup hd, ?_⟩
  cases hd with
  | non => exact ⟨_, rfl, iteT (k H (Same.refl _))⟩
  | bl b => exact ⟨_, rfl, iteT (k H (Same.refl _))⟩
  | int i => exact ⟨_, rfl, iteT (k H (Same.refl _))⟩
  | str z => exact ⟨_, rfl, iteT (k H (Same.refl _))⟩
  | lst h a => exact ⟨_, rfl, iteT (k H (Same.refl _))⟩
  | @tup a xs ds ha hx =>
    have hl := dp_len hx
    refine ⟨_, rfl, iteF ?_⟩
    refine ⟨_, rfl, a, xs, rfl, .inr ha, rfl, _, rfl, ?_⟩
    obtain ⟨_, hzs⟩ := sz_in hz
    have bad : ds.length ≠ 3 → isSheetD (.tuple ds) = false := fun q => by
      match ds, q with
      | [], _ => rfl
      | [_], _ => rfl
      | [_, _], _ => rfl
      | [_, _, _], q => exact absurd rfl q
      | _ :: _ :: _ :: _ :: _, _ => rfl
    by_cases l3 : ds.length = 3
    · refine ifF (ne_f (by rw [hl, l3]; rfl)) ?_
      obtain ⟨d0, d1, d2, rfl⟩ : ∃ d0 d1 d2, ds = [d0, d1, d2] := by
        match ds, l3 with
        | [d0, d1, d2], _ => exact ⟨d0, d1, d2, rfl⟩
      obtain ⟨x0, x1, x2, rfl⟩ : ∃ x0 x1 x2, xs = [x0, x1, x2] := by
        match xs, hl with
        | [x0, x1, x2], _ => exact ⟨x0, x1, x2, rfl⟩
      obtain ⟨h0, h1, h2⟩ : Dp K H x0 d0 ∧ Dp K H x1 d1 ∧ Dp K H x2 d2 := by
        cases hx with
        | cons h0 t => cases t with
          | cons h1 t => cases t with
            | cons h2 _ => exact ⟨h0, h1, h2⟩
      have e : isSheetD (.tuple [d0, d1, d2]) = (isTi d0 && (isN d1 && callsD d2)) := rfl
      rw [e] at k
      refine ⟨_, rfl, a, _, _, _, rfl, rfl, ha, atI_nat (show [x0, x1, x2][0]? = some x0 from rfl), x0, d0, rfl, h0, hzs _ List.mem_cons_self, fun H1 e1 => ⟨_, rfl, ?_⟩⟩
      cases c0 : isTi d0 with
      | false =>
        rw [c0, Bool.false_and] at k
        exact iteT (k H1 e1)
      | true =>
        rw [c0, Bool.true_and] at k
        refine iteF ?_
        refine ⟨_, rfl, a, _, _, _, rfl, rfl, seqT_same e1 ha, atI_nat (show [x0, x1, x2][1]? = some x1 from rfl), x1, d1, rfl, dp_same e1 h1, _, rfl, ?_⟩
        cases c1 : isN d1 with
        | false =>
          rw [c1, Bool.false_and] at k
          exact iteT (k H1 e1)
        | true =>
          rw [c1, Bool.true_and] at k
          refine iteF ?_
          have h2' := dp_same e1 h2
          have ha1 := seqT_same e1 ha
          have hz2 := hzs d2 (by simp)
          have at2 : atI [x0, x1, x2] 2 = some x2 := atI_nat (show [x0, x1, x2][2]? = some x2 from rfl)
          clear e hx h2 hl bad l3
          refine ⟨_, rfl, a, _, _, _, rfl, rfl, ha1, at2, x2, .ty "tuple", _, _, _, rfl, .ty "tuple", ty_of h2', kit_tup h2', _, rfl, ?_⟩
          cases h2' with
          | non => exact k H1 e1
          | bl b => exact k H1 e1
          | int i => exact k H1 e1
          | str z => exact k H1 e1
          | lst h a => exact k H1 e1
          | @tup b ys ds hb hy =>
            refine iteT ?_
            have hly := dp_len hy
            obtain ⟨hz1, hz3⟩ := sz_in hz2
            refine ⟨_, rfl, a, _, _, _, rfl, rfl, ha1, at2, b, rfl, ⟨_, hb⟩, fun D hD => ?_⟩
            refine lc_tup (K := K) (a := b) (xs := ys) (fun i H' => Same H1 H' ∧ H' D = some (.lst (((ds.take i).map isCallD).map V.bl))) ?_ ?_ ?_ ?_
            · exact ⟨same_new hD _, upd_same⟩
            · rintro i H' _ ⟨e, _⟩
              exact seqT_same e hb
            · rintro i x H' hix ⟨e, hDl⟩
              obtain ⟨d, md, hdi, hdx⟩ := dp_get hy hix
              refine ⟨rfl, _, rfl, x, d, rfl, dp_same e hdx, hz3 d md, fun H2 e2 => ?_⟩
              have hi : i < ds.length := (List.getElem?_eq_some_iff.mp hdi).1
              refine ⟨_, e2 _ _ hDl, (by rw [List.length_map, List.length_map, List.length_take]; exact szl (by omega)), same_mut (e.trans e2) hD, ?_⟩
              rw [upd_same, List.take_succ, hdi, List.map_append, List.map_append]
              rfl
            · rintro H2 ⟨e, hDl⟩
              rw [hly, List.take_length] at hDl
              refine ⟨D, _, rfl, SqL.of hDl, ?_⟩
              have ea : ((ds.map isCallD).all id) = ds.all isCallD := by rw [List.all_map]; rfl
              rw [ea]
              exact k H2 (e1.trans e)
    · rw [bad l3] at k
      exact ifT (ne_t (by rw [hl]; omega)) (k H (Same.refl _))
theorem sheet_ttl {K : PySem.W.Frag} {H : Hp} {x : V} {d : PyData} (h : Dp K H x d) (e : isSheetD d = true) : ∃ (a : Addr) (ys : List V), x = .ref a ∧ SqT K H a ys ∧ ys[0]? = some (.str (ttlD d)) := by
  cases h with
  | non => cases e
  | bl b => cases e
  | int i => cases e
  | str z => cases e
  | lst h a => cases e
  | @tup a xs ds ha hx =>
    match ds, hx, e with
    | [d0, d1, d2], hx, e =>
      have e0 : isTi d0 = true := (Bool.and_eq_true_iff.mp (show (isTi d0 && (isN d1 && callsD d2)) = true from e)).1
      cases hx with
      | cons h0 t =>
        cases h0 with
        | str z => exact ⟨a, _, rfl, ha, rfl⟩
        | _ => cases e0
theorem ok_is_sheets (T : Txt K mg) : FnOk P w K mg base CX0 5 T.f_is_sheets T.d_is_sheets ["thing"] (spG isSheetsD K) := by
  have nd := sc_is_sheets.nd
  refine T.F_is_sheets.ok sc_is_sheets (fun vs H Q E h => ?_) (fun cdv A outer s H vs Q E hr h => ?_)
  · obtain ⟨x, d, rfl, _⟩ := h
    rfl
  obtain ⟨x, d, rfl, hd, hz, k⟩ := h
  have G_is_sheet : FnOk P w K mg base CX0 4 _ _ _ (spG isSheetD K) := ok_is_sheet T
  have hr_is_sheet := hr
  refine ⟨_, (pss_cons (ps_if (PW.pt (pw_or (pt_not (pt_val (pe_callB call_isi (by rfl) T.z_isinstance (by decide +kernel) (pa_cons (pv 0) (pa_cons (pe_bltn (v := .ty "tuple") rfl T.z_tuple (by decide +kernel) rfl) pa_nil))))) (pw_or1 (pt_not (pt_val (pe_callB (cr_all rfl) (by rfl) T.z_all (by decide +kernel) (pa_cons (pe_lc (own := [("sheet", 1)]) (g := gName 1) (tt := tYes) (by rfl) nd (pi_tup (pv 0)) (blkOk_by (own := [("sheet", 1)]) (N := sl_is_sheets) (sc := defScope s_is_sheets) (by decide +kernel)) (fun _ _ _ _ _ => pg_name (i := 1) nd rfl (Or.inl rfl)) (fun _ _ _ _ _ => pts_nil) (fun _ _ _ _ _ => (pe_call G_is_sheet hr_is_sheet rfl T.m_is_sheet T.k_is_sheet T.b_is_sheet .nil pass0 (pa_cons (pv 1) pa_nil)))) pa_nil))))))) (pss_one (ps_ret pe_bl)) pss_nil)
      (pss_one (ps_ret (pe_cmpR op_eq (pe_callB call_lenD (by rfl) T.z_len PySem.boot_len (pa_cons (pe_dc (own := [("sheet", 1)]) (g := gName 1) (tt := tYes) (by rfl) nd (pi_tup (pv 0)) (blkOk_by (own := [("sheet", 1)]) (N := sl_is_sheets) (sc := defScope s_is_sheets) (by decide +kernel)) (fun _ _ _ _ _ => pg_name (i := 1) nd rfl (Or.inl rfl)) (fun _ _ _ _ _ => pts_nil) (fun _ _ _ _ _ => (pe_ix (ix_tupK (K := K) rfl) (pv 1) pe_int (fun _ _ => rfl))) (fun _ _ _ _ _ => pe_bl)) pa_nil)) (pe_callB call_len_seq (by rfl) T.z_len PySem.boot_len (pa_cons (pv 0) pa_nil)) (nomark _))))), ?_⟩
  refine ⟨_, rfl, x, .ty "tuple", _, _, _, rfl, .ty "tuple", ty_of hd, kit_tup hd, ?_⟩
  cases hd with
  | non => exact ⟨_, rfl, iteT (k H (Same.refl _))⟩
  | bl b => exact ⟨_, rfl, iteT (k H (Same.refl _))⟩
  | int i => exact ⟨_, rfl, iteT (k H (Same.refl _))⟩
  | str z => exact ⟨_, rfl, iteT (k H (Same.refl _))⟩
  | lst h a => exact ⟨_, rfl, iteT (k H (Same.refl _))⟩
  | @tup a xs ds ha hx =>
    have hl := dp_len hx
    obtain ⟨hz1, hz3⟩ := sz_in hz
    refine ⟨_, rfl, iteF ?_⟩
    refine ⟨_, rfl, a, rfl, ⟨_, ha⟩, fun D hD => ?_⟩
    refine lc_tup (K := K) (a := a) (xs := xs) (fun i H' => Same H H' ∧ H' D = some (.lst (((ds.take i).map isSheetD).map V.bl))) ?_ ?_ ?_ ?_
    · exact ⟨same_new hD _, upd_same⟩
    · rintro i H' _ ⟨e, _⟩
      exact seqT_same e ha
    · rintro i x H' hix ⟨e, hDl⟩
      obtain ⟨d, md, hdi, hdx⟩ := dp_get hx hix
      refine ⟨rfl, _, rfl, x, d, rfl, dp_same e hdx, hz3 d md, fun H2 e2 => ?_⟩
      have hi : i < ds.length := (List.getElem?_eq_some_iff.mp hdi).1
      refine ⟨_, e2 _ _ hDl, (by rw [List.length_map, List.length_map, List.length_take]; exact szl (by omega)), same_mut (e.trans e2) hD, ?_⟩
      rw [upd_same, List.take_succ, hdi, List.map_append, List.map_append]
      rfl
    · rintro H1 ⟨e1, hDl⟩
      rw [hl, List.take_length] at hDl
      refine ⟨D, _, rfl, SqL.of hDl, _, rfl, ?_⟩
      have ea : ((ds.map isSheetD).all id) = ds.all isSheetD := by rw [List.all_map]; rfl
      rw [ea]
      have ek : isSheetsD (.tuple ds) = (ds.all isSheetD && decide (ds.map ttlD).Nodup) := rfl
      rw [ek] at k
      cases hall : ds.all isSheetD with
      | false =>
        rw [hall, Bool.false_and] at k
        exact iteT (k H1 e1)
      | true =>
        rw [hall, Bool.true_and] at k
        refine iteF ?_
        have hx1 := dpAll_same e1 hx
        have ha1 := seqT_same e1 ha
        refine ⟨_, rfl, a, rfl, ⟨_, ha1⟩, fun C hC => ?_⟩
        refine dc_tup (K := K) (a := a) (xs := xs) (fun i H' => Same H1 H' ∧ H' C = some (.dK (ckS (dedS ((ds.take i).map ttlD))))) ?_ ?_ ?_ ?_
        · exact ⟨same_new hC _, upd_same⟩
        · rintro i H' _ ⟨e, _⟩
          exact seqT_same e ha1
        · rintro i z H' hiz ⟨e, hDl⟩
          obtain ⟨d, md, hdi, hdx⟩ := dp_get hx1 hiz
          have hi : i < ds.length := (List.getElem?_eq_some_iff.mp hdi).1
          obtain ⟨b, ys, rfl, hb, h0⟩ := sheet_ttl (dp_same e hdx) (List.all_eq_true.mp hall d md)
          refine ⟨rfl, ?_⟩
          unfold tYes
          dsimp only
          rw [if_pos rfl]
          refine ⟨_, rfl, b, _, _, _, rfl, rfl, hb, atI_nat h0, ?_⟩
          have hlen := (ded_len ((ds.take i).map ttlD)).1
          rw [List.length_map, List.length_take] at hlen
          refine ⟨_, Sum.inr (ttlD d), rfl, hDl, by unfold ckS; rw [List.length_map]; exact szl (by omega), same_mut e hC, ?_⟩
          rw [upd_same, ckS_put, ← ded_snoc, List.take_succ, hdi, List.map_append]
          rfl
        · rintro H2 ⟨e2, hDl⟩
          rw [hl, List.take_length] at hDl
          refine ⟨C, _, rfl, hDl, ?_⟩
          refine ⟨_, rfl, a, xs, rfl, .inr (seqT_same e2 ha1), ?_⟩
          obtain ⟨_, h2, _⟩ := ded_len (ds.map ttlD)
          rw [List.length_map] at h2
          have eq : decide (V.int ((ckS (dedS (ds.map ttlD))).length : Int) = V.int (xs.length : Int)) = decide (ds.map ttlD).Nodup := by
            unfold ckS
            rw [List.length_map, hl]
            by_cases q : (ds.map ttlD).Nodup
            · rw [decide_eq_true q, h2.mpr q]; exact decide_eq_true rfl
            · rw [decide_eq_false q]
              exact decide_eq_false fun z => q (h2.mp (by have := V.int.inj z; omega))
          have kk := k H2 (e1.trans e2)
          rw [← eq] at kk
          exact ⟨rfl, kk⟩
end
end Lk

set_option Elab.async false
set_option linter.all false
set_option maxRecDepth 100000
set_option maxHeartbeats 4000000
namespace Lk
open PySem PySem.Spec PyProof.Rows L2
/-! ### texts in order -/
def leS (a b : Str) : Bool := !ltCps b.cps.toList a.cps.toList
theorem leS_iff (a b : Str) : leS a b = true ↔ ¬ (b.cps.toList < a.cps.toList) := by
  unfold leS
  rw [ltCps_eq, Bool.not_eq_true', decide_eq_false_iff_not]
theorem str_ext {a b : Str} (h : a.cps.toList = b.cps.toList) : a = b := by
  cases a; cases b
  congr 1
  exact Array.toList_inj.mp h
theorem leS_anti {a b : Str} (h1 : leS a b = true) (h2 : leS b a = true) : a = b := by
  rw [leS_iff] at h1 h2
  exact str_ext (List.le_antisymm (as := a.cps.toList) (bs := b.cps.toList) h1 h2)
theorem leS_total (a b : Str) : (leS a b || leS b a) = true := by
  rw [Bool.or_eq_true, leS_iff, leS_iff]
  exact List.le_total a.cps.toList b.cps.toList
theorem leS_trans (a b c : Str) (h1 : leS a b = true) (h2 : leS b c = true) : leS a c = true := by
  rw [leS_iff] at *
  exact List.le_trans (l₁ := a.cps.toList) (l₂ := b.cps.toList) (l₃ := c.cps.toList) h1 h2
theorem risingS_le : ∀ (l : List Str) (p : Str), risingS p l = true → (p :: l).Pairwise fun a b => leS a b = true
  | [], p, _ => List.pairwise_singleton _ _
  | x :: r, p, h => by
    have h2 := Bool.and_eq_true_iff.mp (show (leS p x && risingS x r) = true from h)
    have ih := risingS_le r x h2.2
    refine List.pairwise_cons.mpr ⟨fun y m => ?_, ih⟩
    rcases List.mem_cons.mp m with rfl | m
    · exact h2.1
    · exact leS_trans _ _ _ h2.1 ((List.pairwise_cons.mp ih).1 y m)
theorem sortedS_le : ∀ {l : List Str}, sortedS l = true → l.Pairwise fun a b => leS a b = true
  | [], _ => .nil
  | x :: r, h => risingS_le r x h
theorem eq_of_perm {α : Type} {r : α → α → Prop} (anti : ∀ a b, r a b → r b a → a = b) : ∀ {l m : List α}, l.Perm m → l.Pairwise r → m.Pairwise r → l = m
  | [], m, p, _, _ => (List.nil_perm.mp p).symm
  | x :: l, [], p, _, _ => absurd p.length_eq (by simp)
  | x :: l, y :: m, p, h1, h2 => by
    have e : x = y := by
      rcases List.mem_cons.mp (p.mem_iff.mp (List.mem_cons_self (a := x) (l := l))) with e | mx
      · exact e
      rcases List.mem_cons.mp (p.mem_iff.mpr (List.mem_cons_self (a := y) (l := m))) with e | my
      · exact e.symm
      exact anti _ _ ((List.pairwise_cons.mp h1).1 y my) ((List.pairwise_cons.mp h2).1 x mx)
    subst e
    rw [eq_of_perm anti (List.Perm.cons_inv p) (List.pairwise_cons.mp h1).2 (List.pairwise_cons.mp h2).2]
def srt (l : List Str) : List Str := l.mergeSort leS
theorem srt_perm (l : List Str) : (srt l).Perm l := List.mergeSort_perm ..
theorem srt_le (l : List Str) : (srt l).Pairwise fun a b => leS a b = true := List.pairwise_mergeSort leS_trans leS_total l
theorem srt_mem {l : List Str} {z : Str} : z ∈ srt l ↔ z ∈ l := (srt_perm l).mem_iff
theorem srt_len (l : List Str) : (srt l).length = l.length := (srt_perm l).length_eq
theorem srt_nodup {l : List Str} (h : l.Nodup) : (srt l).Nodup := (srt_perm l).nodup_iff.mpr h
theorem srt_eq {l ys : List Str} (p : ys.Perm l) (h : sortedS ys = true) : ys = srt l :=
  eq_of_perm (fun _ _ => leS_anti) (p.trans (srt_perm l).symm) (sortedS_le h) (srt_le l)
/-- lists with the same items, each once, are told alike in order -/
theorem srt_same {l m : List Str} (h1 : l.Nodup) (h2 : m.Nodup) (h : ∀ z, z ∈ l ↔ z ∈ m) : srt l = srt m :=
  eq_of_perm (fun _ _ => leS_anti) ((srt_perm l).trans (((List.perm_ext_iff_of_nodup h1 h2).mpr h).trans (srt_perm m).symm)) (srt_le l) (srt_le m)
theorem srt_id {l : List Str} (h : l.Pairwise fun a b => leS a b = true) : srt l = l := eq_of_perm (fun _ _ => leS_anti) (srt_perm l) (srt_le l) h
theorem filter_srt (l : List Str) (p : Str → Bool) : (srt l).filter p = srt (l.filter p) :=
  eq_of_perm (fun _ _ => leS_anti) (((srt_perm l).filter p).trans (srt_perm _).symm) ((srt_le l).sublist List.filter_sublist) (srt_le _)
/-! ### reach -/
abbrev Cs := List (Str × List Str)
def nx (cs : Cs) (a : Str) : List Str := match cs.find? fun c => decide (c.1 = a) with
  | some c => c.2
  | none => []
inductive Rc (cs : Cs) : Str → Str → Prop
  | one {a b : Str} : b ∈ nx cs a → Rc cs a b
  | snoc {a b c : Str} : Rc cs a b → c ∈ nx cs b → Rc cs a c
theorem Rc.trans {cs : Cs} {a b c : Str} (h1 : Rc cs a b) (h2 : Rc cs b c) : Rc cs a c := by
  induction h2 with
  | one h => exact .snoc h1 h
  | snoc _ h ih => exact .snoc ih h
noncomputable def rc (cs : Cs) (a b : Str) : Bool := @decide (Rc cs a b) (Classical.propDecidable _)
theorem rc_iff {cs : Cs} {a b : Str} : rc cs a b = true ↔ Rc cs a b := by
  unfold rc
  exact @decide_eq_true_iff _ (Classical.propDecidable _)
theorem Rc.src {cs : Cs} {a b : Str} (h : Rc cs a b) : ∃ c, c ∈ nx cs a := by
  induction h with
  | one h => exact ⟨_, h⟩
  | snoc _ _ ih => exact ih
theorem Rc.tgt {cs : Cs} {a b : Str} (h : Rc cs a b) : ∃ c, b ∈ nx cs c := by
  cases h with
  | one h => exact ⟨_, h⟩
  | snoc _ h => exact ⟨_, h⟩
theorem nx_mem {cs : Cs} {a b : Str} (h : b ∈ nx cs a) : ∃ c ∈ cs, c.1 = a ∧ b ∈ c.2 := by
  unfold nx at h
  cases e : cs.find? fun c => decide (c.1 = a) with
  | none => rw [e] at h; cases h
  | some c =>
    rw [e] at h
    exact ⟨c, List.mem_of_find?_eq_some e, of_decide_eq_true (List.find?_some (p := fun c : Str × List Str => decide (c.1 = a)) e), h⟩
/-! ### the closure by middles -/
def pass (m : Str) (f : Str → List Str) (t : Str) : List Str := if m ∈ f t then f t ++ (f m).filter (fun z => !decide (z ∈ f t)) else f t
theorem pass_mem {m : Str} {f : Str → List Str} {t c : Str} : c ∈ pass m f t ↔ c ∈ f t ∨ (m ∈ f t ∧ c ∈ f m) := by
  unfold pass
  by_cases h : m ∈ f t
  · rw [if_pos h, List.mem_append, List.mem_filter]
    constructor
    · rintro (z | ⟨z, _⟩)
      · exact .inl z
      · exact .inr ⟨h, z⟩
    · rintro (z | ⟨_, z⟩)
      · exact .inl z
      · by_cases q : c ∈ f t
        · exact .inl q
        · exact .inr ⟨z, by rw [decide_eq_false q]; rfl⟩
  · rw [if_neg h]
    exact ⟨.inl, fun z => z.elim id fun z => absurd z.1 h⟩
theorem pass_self (m : Str) (f : Str → List Str) : pass m f m = f m := by
  unfold pass
  split
  · rw [List.filter_eq_nil_iff.mpr, List.append_nil]
    intro z hz
    rw [decide_eq_true hz]
    exact Bool.false_ne_true
  · rfl
theorem pass_nodup {m : Str} {f : Str → List Str} (h : ∀ t, (f t).Nodup) (t : Str) : (pass m f t).Nodup := by
  unfold pass
  split
  · refine List.nodup_append.mpr ⟨h t, (h m).filter _, fun a ha b hb e => ?_⟩
    have := (List.mem_filter.mp hb).2
    rw [← e, decide_eq_true ha] at this
    cases this
  · exact h t
def passes (ms : List Str) (f : Str → List Str) : Str → List Str := ms.foldl (fun f m => pass m f) f
theorem passes_snoc (ms : List Str) (m : Str) (f : Str → List Str) : passes (ms ++ [m]) f = pass m (passes ms f) := by unfold passes; rw [List.foldl_append]; rfl
theorem passes_nodup {ms : List Str} : ∀ {f : Str → List Str}, (∀ t, (f t).Nodup) → ∀ t, (passes ms f t).Nodup := by
  induction ms with
  | nil => exact fun h => h
  | cons m ms ih => exact fun h => ih (pass_nodup h)
theorem passes_sub {ms : List Str} : ∀ {f : Str → List Str} {t c : Str}, c ∈ f t → c ∈ passes ms f t := by
  induction ms with
  | nil => exact fun h => h
  | cons m ms ih => exact fun h => ih (pass_mem.mpr (.inl h))
theorem passes_sound {cs : Cs} {ms : List Str} : ∀ {f : Str → List Str}, (∀ t c, c ∈ f t → Rc cs t c) → ∀ t c, c ∈ passes ms f t → Rc cs t c := by
  induction ms with
  | nil => exact fun h => h
  | cons m ms ih => exact fun h => ih fun t c z => (pass_mem.mp z).elim (h t c) fun z => (h t m z.1).trans (h m c z.2)
/-- closed at a middle -/
def Cl1 (f : Str → List Str) (m : Str) : Prop := ∀ a c, m ∈ f a → c ∈ f m → c ∈ f a
theorem cl1_pass {f : Str → List Str} {m m1 : Str} (h : Cl1 f m1) : Cl1 (pass m f) m1 := by
  intro a c h1 h2
  rw [pass_mem] at *
  rcases h1 with h1 | ⟨h1, h3⟩ <;> rcases h2 with h2 | ⟨h2, h4⟩
  · exact .inl (h a c h1 h2)
  · exact .inr ⟨h a m h1 h2, h4⟩
  · exact .inr ⟨h1, h m c h3 h2⟩
  · exact .inr ⟨h1, h4⟩
theorem cl1_self {f : Str → List Str} {m : Str} : Cl1 (pass m f) m := by
  intro a c h1 h2
  rw [pass_mem] at *
  have h3 : m ∈ f a := h1.elim id fun z => z.1
  exact .inr ⟨h3, h2.elim id fun z => z.2⟩
theorem cl1_passes {ms : List Str} : ∀ {f : Str → List Str} {m : Str}, Cl1 f m ∨ m ∈ ms → Cl1 (passes ms f) m := by
  induction ms with
  | nil => exact fun h => h.elim id fun z => nomatch z
  | cons x ms ih =>
    intro f m h
    refine ih (f := pass x f) ?_
    rcases h with h | h
    · exact .inl (cl1_pass h)
    · rcases List.mem_cons.mp h with rfl | h
      · exact .inl cl1_self
      · exact .inr h
theorem passes_rc {cs : Cs} {ms : List Str} {f : Str → List Str} (h0 : ∀ t c, c ∈ f t ↔ c ∈ nx cs t) (h1 : ∀ t c, c ∈ nx cs t → t ∈ ms) (t c : Str) : c ∈ passes ms f t ↔ Rc cs t c := by
  refine ⟨passes_sound (fun t c z => .one ((h0 t c).mp z)) t c, fun h => ?_⟩
  induction h with
  | one h => exact passes_sub ((h0 _ _).mpr h)
  | snoc _ h ih => exact cl1_passes (.inr (h1 _ _ h)) _ _ ih (passes_sub ((h0 _ _).mpr h))
/-! ### rings -/
noncomputable def ringL (cs : Cs) (S : List Str) (t : Str) : List Str := S.filter fun o => rc cs t o && rc cs o t
noncomputable def ringsL (cs : Cs) (S : List Str) : List (List Str) := (S.filter fun t => decide ((ringL cs S t).head? = some t)).map (ringL cs S)
theorem ring_mem {cs : Cs} {S : List Str} {t o : Str} : o ∈ ringL cs S t ↔ o ∈ S ∧ Rc cs t o ∧ Rc cs o t := by
  unfold ringL
  rw [List.mem_filter, Bool.and_eq_true, rc_iff, rc_iff]
theorem ring_same {cs : Cs} {S : List Str} {t o : Str} (h : o ∈ ringL cs S t) : ringL cs S o = ringL cs S t := by
  obtain ⟨_, h1, h2⟩ := ring_mem.mp h
  unfold ringL
  refine List.filter_congr fun z _ => ?_
  have e1 : rc cs o z = rc cs t z := Bool.eq_iff_iff.mpr (by rw [rc_iff, rc_iff]; exact ⟨h1.trans, h2.trans⟩)
  have e2 : rc cs z o = rc cs z t := Bool.eq_iff_iff.mpr (by rw [rc_iff, rc_iff]; exact ⟨fun h => h.trans h2, fun h => h.trans h1⟩)
  rw [e1, e2]
theorem rings_mem {cs : Cs} {S : List Str} {r : List Str} : r ∈ ringsL cs S ↔ ∃ t ∈ S, Rc cs t t ∧ r = ringL cs S t := by
  unfold ringsL
  rw [List.mem_map]
  constructor
  · rintro ⟨t, h, rfl⟩
    obtain ⟨h1, h2⟩ := List.mem_filter.mp h
    have h3 : t ∈ ringL cs S t := List.mem_of_mem_head? (of_decide_eq_true h2)
    exact ⟨t, h1, (ring_mem.mp h3).2.1, rfl⟩
  · rintro ⟨t, h, hr, rfl⟩
    have ht : t ∈ ringL cs S t := ring_mem.mpr ⟨h, hr, hr⟩
    cases e : (ringL cs S t).head? with
    | none =>
      rw [List.head?_eq_none_iff] at e
      rw [e] at ht; cases ht
    | some u =>
      have hu : u ∈ ringL cs S t := List.mem_of_mem_head? e
      refine ⟨u, List.mem_filter.mpr ⟨(ring_mem.mp hu).1, ?_⟩, ring_same hu⟩
      rw [ring_same hu, e]
      exact decide_eq_true rfl
theorem rings_nodup {cs : Cs} {S : List Str} (h : S.Nodup) : (ringsL cs S).Nodup := by
  unfold ringsL
  refine List.pairwise_map.mpr ((List.Pairwise.and_mem.mp (h.filter _)).imp ?_)
  rintro a b ⟨ha, hb, ne⟩ e
  have h1 := of_decide_eq_true (List.mem_filter.mp ha).2
  have h2 := of_decide_eq_true (List.mem_filter.mp hb).2
  rw [e, h2] at h1
  exact ne (Option.some.inj h1).symm
end Lk

set_option Elab.async false
set_option linter.all false
set_option maxRecDepth 100000
set_option maxHeartbeats 4000000
namespace Lk
open PySem PySem.Spec PyProof.Rows L2
/-! ### l.extend(x), x a list or a tuple -/
theorem ext_tup (l : Addr) (items : Array Value) (n : Nat) (b : Addr) (o : Obj) (items2 : Array Value) (m : Nat) (hc : o.cls = .type "tuple") (hd : o.data = .seq items2 m) (hs0 : ¬(!items.isEmpty && Builtin.List.listTooLong (items.size + items2.size)) = true) (hs1 : items.size ≤ sizeLine) (hs2 : items.size + items2.size ≤ sizeLine + 1) :
    Meets (Builtin.«list.extend» ⟨[.ref l, .ref b], []⟩) (fun _ R s => s.heap.get? l = some { cls := .type "list", dict := none, data := .seq items n, slots := #[] } ∧ s.heap.get? b = some o ∧ R (.ok (.ret Value.none)) { s with heap := s.heap.update l (Obj.mapSeq fun x => x ++ items2), toks := s.toks }) :=
  .of_wp fun prog w A R s h => by
    obtain ⟨hp, g, d, tk, os⟩ := s
    obtain ⟨hl, hb, h⟩ := h
    obtain ⟨oc, od, oda, os2⟩ := o
    obtain rfl : oc = .type "tuple" := hc
    obtain rfl : oda = .seq items2 m := hd
    have f2 := AutoSeq1.sub_tuple_tuple
    have f5 := AutoSeq1.sub_list_tuple
    have f4 := AutoSeq1.sub_tuple_list
    have f3 := AutoSeq1.sub_list_list
    have f1 := AutoSeq1.idx_int
    have fits : (items ++ items2).size ≤ sizeLine + 1 := by rw [Array.size_append]; exact hs2
    wp_walk using (wpAny_updateSeq hl rfl (hz := hs1) (_hz' := fits)), AutoSeq1.wpAny_loadPart' hl, AutoSeq1.wpAny_loadPart' hb
    exact ⟨_, rfl, h⟩
def rExtendU (K : PySem.W.Frag) : V → List V → Hp → VK → Prop := fun x vs H Q => ∃ l b xs zs, x = .ref l ∧ vs = [.ref b] ∧ H l = some (.lst xs) ∧ (H b = some (.lst zs) ∨ SqT K H b zs) ∧ xs.length + zs.length ≤ sizeLine ∧ Q .non (upd H l (.lst (xs ++ zs)))
theorem mt_extendU {X : Cx} : MtM X "list.extend" (rExtendU X.K) := by
  intro pins s σ H x vs v us Q I rx rv h
  obtain ⟨l, b, xs, zs, ex, ev, hH, hB, hz, q⟩ := h
  rcases hB with hB | hB
  · exact mt_extend pins s σ H x vs v us Q I rx rv ⟨l, b, xs, zs, ex, ev, hH, hB, hz, q⟩
  subst ex ev
  cases rx
  obtain ⟨u, rfl, ru⟩ := rv.one
  cases ru
  obtain ⟨z, its, n, r, hl, e⟩ := I.lstM hH
  obtain ⟨its2, r2, ⟨o2, e2, hc2, m2, hd2⟩, z2⟩ := I.tuple hB
  have hl2 := r2.length
  have hsz : its.toArray.size + its2.toArray.size ≤ sizeLine := by rw [List.size_toArray, List.size_toArray]; omega
  have few : ¬ (!its.toArray.isEmpty && Builtin.List.listTooLong (its.toArray.size + its2.toArray.size)) = true := by
    rw [notLongL hsz, Bool.and_false]
    simp
  refine call_meets F.slot_list_extend ⟨_, e, rfl⟩ F.entry_list_extend (F.args_list_extend_2 _ _) (ext_tup l its.toArray n b o2 its2.toArray m2 hc2 hd2 few (by rw [List.size_toArray]; omega) (by omega)) ⟨e, e2, ?_⟩
  refine ⟨.non, _, I.lset (its' := its ++ its2) hH e (by simp) (r.append r2) ?_, rfl, q⟩
  rw [List.length_append]
  omega
end Lk

set_option Elab.async false
set_option linter.all false
set_option maxRecDepth 100000
set_option maxHeartbeats 4000000
set_option pp.maxSteps 1500
namespace Lk
open PySem PySem.Spec PyProof.Rows L2
/-! ### who calls whom, in a dict -/
structure Cd (H : Hp) (c : Addr) (kvs : List (Key × V)) (cs : Cs) : Prop where
  rd : Rd H c (.dK kvs)
  keys : kvs.map (·.1) = cs.map fun p => (Sum.inr p.1 : Key)
  get : ∀ t, (∃ l, valV kvs (Sum.inr t) = some (.ref l) ∧ H l = some (.lst ((nx cs t).map V.str)) ∧ t ∈ cs.map (·.1)) ∨ (valV kvs (Sum.inr t) = none ∧ nx cs t = [] ∧ t ∉ cs.map (·.1))
theorem rd_same {H H' : Hp} {a : Addr} {u : HO} (e : Same H H') (h : Rd H a u) : Rd H' a u := h.imp (e _ _) fun ⟨o, h⟩ => ⟨o, e _ _ h⟩
theorem Cd.same {H H' : Hp} {c : Addr} {kvs : List (Key × V)} {cs : Cs} (d : Cd H c kvs cs) (e : Same H H') : Cd H' c kvs cs :=
  ⟨rd_same e d.rd, d.keys, fun t => (d.get t).imp (fun ⟨l, h1, h2, h3⟩ => ⟨l, h1, e _ _ h2, h3⟩) id⟩
def flatC (cs : Cs) : List Str := cs.flatMap (·.2)
def Small (cs : Cs) : Prop := (flatC cs).length ≤ 60 ∧ cs.length ≤ 60
theorem nx_flat {cs : Cs} {t z : Str} (h : z ∈ nx cs t) : z ∈ flatC cs := by
  obtain ⟨c, h1, _, h2⟩ := nx_mem h
  exact List.mem_flatMap.mpr ⟨c, h1, h2⟩
theorem len_flat {cs : Cs} {c : Str × List Str} (h : c ∈ cs) : c.2.length ≤ (flatC cs).length := by
  obtain ⟨A, B, rfl⟩ := List.append_of_mem h
  unfold flatC
  rw [List.flatMap_append, List.flatMap_cons, List.length_append, List.length_append]
  omega
theorem nx_len {cs : Cs} (t : Str) : (nx cs t).length ≤ (flatC cs).length := by
  unfold nx
  split
  · next c e => exact len_flat (List.mem_of_find?_eq_some e)
  · exact Nat.zero_le _
theorem Rc.flat {cs : Cs} {a b : Str} (h : Rc cs a b) : b ∈ flatC cs := by
  obtain ⟨c, h⟩ := h.tgt
  exact nx_flat h
theorem nodup_len : ∀ {l m : List Str}, l.Nodup → (∀ z ∈ l, z ∈ m) → l.length ≤ m.length
  | [], _, _, _ => Nat.zero_le _
  | x :: l, m, h, s => by
    obtain ⟨A, B, rfl⟩ := List.append_of_mem (s x List.mem_cons_self)
    obtain ⟨h1, h2⟩ := List.nodup_cons.mp h
    have := nodup_len (l := l) (m := A ++ B) h2 fun z hz => by
      rcases List.mem_append.mp (s z (List.mem_cons_of_mem _ hz)) with q | q
      · exact List.mem_append_left _ q
      · rcases List.mem_cons.mp q with rfl | q
        · exact absurd hz h1
        · exact List.mem_append_right _ q
    rw [List.length_append] at this ⊢
    rw [List.length_cons, List.length_cons]
    omega
/-- the state of the way -/
structure Rw1 (cs : Cs) (t : Str) (ks pend : List Str) : Prop where
  nd : ks.Nodup
  k1 : ∀ z ∈ ks, Rc cs t z
  k2 : ∀ z ∈ pend, Rc cs t z
  c1 : ∀ z ∈ nx cs t, z ∈ ks ∨ z ∈ pend
  c2 : ∀ a ∈ ks, ∀ z ∈ nx cs a, z ∈ ks ∨ z ∈ pend
theorem Rw1.start (cs : Cs) (t : Str) : Rw1 cs t [] (nx cs t) := ⟨List.nodup_nil, (fun _ h => nomatch h), fun _ h => .one h, fun _ h => .inr h, (fun _ h => nomatch h)⟩
theorem Rw1.old {cs : Cs} {t one : Str} {ks r : List Str} (w : Rw1 cs t ks (r ++ [one])) (h : one ∈ ks) : Rw1 cs t ks r :=
  have o : ∀ z, z ∈ ks ∨ z ∈ r ++ [one] → z ∈ ks ∨ z ∈ r := fun z q => q.elim .inl fun q => (List.mem_append.mp q).elim .inr fun q => .inl (by rw [List.mem_singleton.mp q]; exact h)
  ⟨w.nd, w.k1, fun z m => w.k2 z (List.mem_append_left _ m), fun z m => o z (w.c1 z m), fun a ha z m => o z (w.c2 a ha z m)⟩
theorem Rw1.new {cs : Cs} {t one : Str} {ks r : List Str} (w : Rw1 cs t ks (r ++ [one])) (h : one ∉ ks) : Rw1 cs t (ks ++ [one]) (r ++ nx cs one) := by
  have r1 : Rc cs t one := w.k2 one (List.mem_append_right _ List.mem_cons_self)
  have o : ∀ z, z ∈ ks ∨ z ∈ r ++ [one] → z ∈ ks ++ [one] ∨ z ∈ r ++ nx cs one := fun z q => q.elim (fun q => .inl (List.mem_append_left _ q)) fun q => (List.mem_append.mp q).elim (fun q => .inr (List.mem_append_left _ q)) fun q => .inl (List.mem_append_right _ q)
  refine ⟨List.nodup_append.mpr ⟨w.nd, by simp, fun a ha b hb e => h (by rw [← List.mem_singleton.mp hb, ← e]; exact ha)⟩, fun z m => ?_, fun z m => ?_, fun z m => o z (w.c1 z m), fun a ha z m => ?_⟩
  · rcases List.mem_append.mp m with m | m
    · exact w.k1 z m
    · rw [List.mem_singleton.mp m]; exact r1
  · rcases List.mem_append.mp m with m | m
    · exact w.k2 z (List.mem_append_left _ m)
    · exact .snoc r1 m
  · rcases List.mem_append.mp ha with ha | ha
    · exact o z (w.c2 a ha z m)
    · rw [List.mem_singleton.mp ha] at m
      exact .inr (List.mem_append_right _ m)
theorem Rw1.all {cs : Cs} {t : Str} {ks : List Str} (w : Rw1 cs t ks []) (z : Str) : z ∈ ks ↔ Rc cs t z := by
  refine ⟨w.k1 z, fun h => ?_⟩
  induction h with
  | one h => exact (w.c1 _ h).elim id fun q => nomatch q
  | snoc _ h ih => exact (w.c2 _ ih _ h).elim id fun q => nomatch q
theorem Rw1.len {cs : Cs} {t : Str} {ks pend : List Str} (w : Rw1 cs t ks pend) : ks.length ≤ (flatC cs).length := nodup_len w.nd fun z m => (w.k1 z m).flat
/-! ### promises -/
def spReach (K : PySem.W.Frag) : Sp := fun vs H Q _ => ∃ (c : Addr) (t : Str) (kvs : List (Key × V)) (cs : Cs), vs = [.ref c, .str t] ∧ Cd H c kvs cs ∧ Small cs ∧ t ∈ cs.map (·.1) ∧
  ∀ (r : Addr) (H' : Hp) (ks : List Str), Same H H' → H r = none → H' r = some (.dK (ckS ks)) → ks.Nodup → (∀ z, z ∈ ks ↔ Rc cs t z) → Q (.ref r) H'
section
variable {P : Program} {w : World} {K : PySem.W.Frag} {mg : Str → Option Value} {base : Heap}
theorem ok_reached (T : Txt K mg) : FnOk P w K mg base CX0 1 T.f__reached T.d__reached ["called", "title"] (spReach K) := by
  have nd := sc__reached.nd
  refine T.F__reached.ok sc__reached (fun vs H Q E h => ?_) (fun cdv A outer s H vs Q E hr h => ?_)
  · obtain ⟨c, t, kvs, cs, rfl, _⟩ := h
    rfl
  obtain ⟨c, t, kvs, cs, rfl, hc, hs, ht, k⟩ := h
  refine ⟨_, (pss_cons (ps_set (i := 2) nd rfl (Or.inl rfl) pe_dnewK)
      (pss_cons (ps_set (i := 3) nd rfl (Or.inl rfl) (pe_callTy call_list_of (by rfl) T.z_list (by decide +kernel) (pa_cons (pe_dget (hu1 hr) (pv 0) (pv 1) (fun _ _ => rfl)) pa_nil)))
      (pss_cons (ps_while PassesOwn.never (pt_truth (pv 3) (by intro _; rfl)) (pss_cons (ps_set (i := 4) nd rfl (Or.inl rfl) (pe_bm0 PySem.F.plainAttrs_list PySem.F.slot_list_pop PySem.F.type_list_pop mt_pop (pv 3)))
      (pss_one (ps_if (pt_cmp (pc_dnotin (hu1 hr) (pv 4) (pv 2)) (by rfl)) (pss_cons (ps_dput (hu1 hr) (pv 2) (pv 4) pe_bl rfl)
      (pss_one (ps_expr (pe_bm PySem.F.plainAttrs_list PySem.F.slot_list_extend PySem.F.type_list_extend mt_extendU (pv 3) (pa_cons (pe_dget2 (hu1 hr) (pv 0) (pv 4) (pe_tup pa_nil) ⟨rfl, rfl, rfl, rfl⟩) pa_nil))))) pss_nil))))
      (pss_one (ps_ret (pv 2)))))), ?_⟩
  refine fun r hr0 => ?_
  have hcr := hc.same (same_new hr0 (.dK []))
  obtain ⟨l, hl1, hl2, _⟩ : ∃ l, valV kvs (Sum.inr t) = some (.ref l) ∧ (upd H r (.dK [])) l = some (.lst ((nx cs t).map V.str)) ∧ t ∈ cs.map (·.1) := by
    rcases hcr.get t with q | ⟨_, _, q⟩
    · exact q
    · exact absurd ht q
  refine ⟨_, rfl, _, rfl, c, .ref l, rfl, .inl ⟨kvs, Sum.inr t, hcr.rd, rfl, hl1.symm⟩, l, _, rfl, .inl (SqL.of hl2), fun p hp => ?_⟩
  have hnp : H p = none := by
    by_cases z : p = r
    · rw [z, upd_same] at hp; cases hp
    · rw [upd_ne z] at hp; exact hp
  have hpr : p ≠ r := fun z => by rw [z, upd_same] at hp; cases hp
  have h60 := hs.1
  let Inv : Nat → L2.St → Hp → Prop := fun m σ H' => ∃ (ks pend : List Str) (o4 : Option V), σ = [some (.ref c), some (.str t), some (.ref r), some (.ref p), o4] ∧ m = (60 - ks.length) * 61 + pend.length ∧ m ≤ 4000 ∧ Same H H' ∧
    H' r = some (.dK (ckS ks)) ∧ H' p = some (.lst (pend.map V.str)) ∧ Rw1 cs t ks pend
  refine ⟨Inv, ⟨_, [], nx cs t, none, rfl, rfl, ?_, ?_, ?_, upd_same, .start cs t⟩, ?_⟩
  · have := nx_len (cs := cs) t
    simp; omega
  · exact same_mut (same_new hr0 _) hnp
  · rw [upd_ne hpr.symm, upd_same]; rfl
  rintro m σ H' ⟨ks, pend, o4, rfl, rfl, hm, e, h1, h2, wy⟩
  refine ⟨_, rfl, (!(pend.map V.str).isEmpty), .inl ⟨_, SqL.of h2, rfl⟩, ?_⟩
  rcases List.eq_nil_or_concat pend with rfl | ⟨rs, one, rfl⟩
  · refine iteF ?_
    exact ⟨_, rfl, k r H' ks e hr0 h1 wy.nd wy.all⟩
  · rw [List.concat_eq_append] at *
    refine ifT (by cases rs <;> rfl) ?_
    have hks := wy.len
    have hlen : (rs ++ [one]).length = rs.length + 1 := by simp
    refine ⟨fun σ' H'' => ∃ m', m' < (60 - ks.length) * 61 + (rs ++ [one]).length ∧ Inv m' σ' H'', fun _ _ z => z, ?_⟩
    refine ⟨_, rfl, .inl ⟨rfl, _, SqL.of h2⟩, p, _, .str one, rfl, rfl, h2, ?_, ?_⟩
    · rw [List.map_append, List.length_append]; simp
    have ed : ((rs ++ [one]).map V.str).dropLast = rs.map V.str := by rw [List.map_append]; simp
    rw [ed]
    have e2 : Same H (upd H' p (.lst (rs.map V.str))) := same_mut e hnp
    have g1 : (upd H' p (.lst (rs.map V.str))) r = some (.dK (ckS ks)) := by rw [upd_ne hpr.symm]; exact h1
    have g2 : (upd H' p (.lst (rs.map V.str))) p = some (.lst (rs.map V.str)) := upd_same
    generalize upd H' p (.lst (rs.map V.str)) = H2 at e2 g1 g2 ⊢
    refine ⟨_, rfl, _, rfl, r, valV (ckS ks) (Sum.inr one), rfl, .inl ⟨_, _, .inl g1, rfl, rfl⟩, ?_⟩
    rw [ckS_val]
    by_cases hin : one ∈ ks
    · rw [if_pos hin]
      refine ⟨_, rfl, iteF ?_⟩
      refine ⟨_, ?_, ks, rs, _, rfl, rfl, ?_, e2, g1, g2, wy.old hin⟩
      · rw [hlen]; omega
      · rw [hlen] at hm; omega
    · rw [if_neg hin]
      refine ⟨_, rfl, iteT ?_⟩
      have wn := wy.new hin
      have hks2 := wn.len
      rw [List.length_append] at hks2
      simp at hks2
      refine ⟨_, rfl, _, rfl, r, _, rfl, DPut.k (k := Sum.inr one) g1 (by unfold ckS; rw [List.length_map]; exact szl (by omega)), ?_⟩
      have e3 : Same H (upd H2 r (.dK (putK (ckS ks) (Sum.inr one) (.bl true)))) := same_mut e2 hr0
      have f1 : (upd H2 r (.dK (putK (ckS ks) (Sum.inr one) (.bl true)))) r = some (.dK (ckS (ks ++ [one]))) := by
        rw [upd_same, ckS_put]
        unfold addS
        rw [if_neg hin]
      have f2 : (upd H2 r (.dK (putK (ckS ks) (Sum.inr one) (.bl true)))) p = some (.lst (rs.map V.str)) := by rw [upd_ne hpr]; exact g2
      generalize upd H2 r (.dK (putK (ckS ks) (Sum.inr one) (.bl true))) = H3 at e3 f1 f2 ⊢
      refine ⟨_, rfl, .inl ⟨rfl, _, SqL.of f2⟩, _, rfl, c, rfl, .inl ⟨_, (hc.same e3).rd⟩, _, rfl, (by show 0 ≤ sizeLine; decide), fun tp htp => ?_⟩
      have e4 := e3.trans (same_new htp (.tup []))
      have s4 := same_new htp (.tup [])
      have ntp : tp ≠ p := fun z => by rw [z, f2] at htp; cases htp
      have ntr : tp ≠ r := fun z => by rw [z, f1] at htp; cases htp
      have q1 := s4 _ _ f1
      have q2 := s4 _ _ f2
      have q3 : (upd H3 tp (.tup [])) tp = some (.tup []) := upd_same
      generalize upd H3 tp (.tup []) = H4 at e4 s4 q1 q2 q3 ⊢
      have hc4 := hc.same e4
      have hnl := nx_len (cs := cs) one
      have fin : ∀ b, (H4 b = some (.lst ((nx cs one).map V.str)) ∨ SqT K H4 b ((nx cs one).map V.str)) → rExtendU K (.ref p) [.ref b] H4 fun v H5 => ∃ m', m' < (60 - ks.length) * 61 + (rs ++ [one]).length ∧ Inv m' [some (.ref c), some (.str t), some (.ref r), some (.ref p), some (.str one)] H5 := fun b hb => by
        refine ⟨p, b, _, _, rfl, rfl, q2, hb, ?_, ?_⟩
        · rw [List.length_map, List.length_map]
          rw [hlen] at hm
          exact Nat.le_of_lt (szl (by omega))
        · refine ⟨_, ?_, ks ++ [one], rs ++ nx cs one, _, rfl, rfl, ?_, same_mut e4 hnp, ?_, ?_, wn⟩
          · rw [List.length_append, List.length_append, hlen]
            simp
            omega
          · rw [List.length_append, List.length_append]
            rw [hlen] at hm
            simp
            omega
          · rw [upd_ne hpr.symm]; exact q1
          · rw [upd_same, List.map_append]
      rcases hc4.get one with ⟨l2, y1, y2, _⟩ | ⟨y1, y2, _⟩
      · exact ⟨some (.ref l2), .inl ⟨kvs, Sum.inr one, hc4.rd, rfl, y1.symm⟩, fin l2 (.inl y2)⟩
      · refine ⟨none, .inl ⟨kvs, Sum.inr one, hc4.rd, rfl, y1.symm⟩, fin tp (.inr ?_)⟩
        rw [y2]
        exact SqT.of q3
end
end Lk

set_option Elab.async false
set_option linter.all false
set_option maxRecDepth 100000
set_option maxHeartbeats 2000000
namespace Lk
open PySem PySem.Spec PyProof.Rows L2
section
variable {J : It} {n : Nat} {G : Hp → Prop} {Y : Nat → Hp → V → Hp → Prop}
/-- a comprehension of a dict over a walk -/
theorem dc_it (w : Walk J n G Y) {g : TG} {tt : TT} {tk tv : TE} {vs : List Nat} {σ : L2.St} {H1 : Hp} {D : Addr} {Qd : Hp → Prop} (Pv : Nat → Hp → Prop) (h0 : Pv 0 (upd H1 D (.dK []))) (hG : ∀ i H, i ≤ n → Pv i H → G H)
    (hs : ∀ i x H H', i < n → Pv i H → Y i H x H' → g x (wipe σ vs) H' fun σ2 H2 => wipe σ2 vs = wipe σ vs ∧ tt σ2 H2 fun b H3 =>
      if b = true then tk σ2 H3 fun y H4 => tv σ2 H4 fun z H5 => ∃ kvs k, y = kV k ∧ H5 D = some (.dK kvs) ∧ kvs.length < sizeLine ∧ Pv (i + 1) (upd H5 D (.dK (putK kvs k z))) else Pv (i + 1) H3) (hd : ∀ H, Pv n H → Qd H) :
    ∃ W : Nat → Nat → Hp → Prop, (∃ m, W 0 m (upd H1 D (.dK []))) ∧ ∀ i m H, W i m H →
      (J.stop i H ∧ Qd H) ∨ (J.go i H ∧ ∃ Nx : Hp → Prop, (∀ H', Nx H' → ∃ m', m' < m ∧ W (i + 1) m' H') ∧ ∀ x H', J.yld i H x H' → g x (wipe σ vs) H' fun σ2 H2 => wipe σ2 vs = wipe σ vs ∧ tt σ2 H2 fun b H3 =>
        if b = true then tk σ2 H3 fun y H4 => tv σ2 H4 fun z H5 => ∃ kvs k, y = kV k ∧ H5 D = some (.dK kvs) ∧ kvs.length < sizeLine ∧ Nx (upd H5 D (.dK (putK kvs k z))) else Nx H3) := by
  refine ⟨fun i m H => m = n - i ∧ i ≤ n ∧ Pv i H, ⟨n, by simp, Nat.zero_le _, h0⟩, ?_⟩
  rintro i m H ⟨rfl, hi, p⟩
  have q := hG i H hi p
  by_cases hlt : i < n
  · refine .inr ⟨w.goes i H hlt q, Pv (i + 1), fun H' p' => ⟨n - (i + 1), by omega, rfl, hlt, p'⟩, fun x H' y => hs i x H H' hlt p (w.yields i H x H' hlt q y)⟩
  · have e : i = n := by omega
    subst e
    exact .inl ⟨w.stops H q, hd H p⟩
end
end Lk

set_option Elab.async false
set_option linter.all false
set_option maxRecDepth 100000
set_option maxHeartbeats 4000000
set_option pp.maxSteps 1500
namespace Lk
open PySem PySem.Spec PyProof.Rows L2
/-! ### a dict in the order of its sheets -/
inductive ZR (R : Str × List Str → V → Prop) : List (Key × V) → Cs → Prop
  | nil : ZR R [] []
  | cons {c : Str × List Str} {v : V} {kvs : List (Key × V)} {cs : Cs} : R c v → ZR R kvs cs → ZR R ((Sum.inr c.1, v) :: kvs) (c :: cs)
theorem ZR.mono {R R' : Str × List Str → V → Prop} {kvs : List (Key × V)} {cs : Cs} (h : ZR R kvs cs) (m : ∀ c v, R c v → R' c v) : ZR R' kvs cs := by
  induction h with
  | nil => exact .nil
  | cons r _ ih => exact .cons (m _ _ r) ih
theorem ZR.snoc {R : Str × List Str → V → Prop} {kvs : List (Key × V)} {cs : Cs} {c : Str × List Str} {v : V} (h : ZR R kvs cs) (r : R c v) : ZR R (kvs ++ [(Sum.inr c.1, v)]) (cs ++ [c]) := by
  induction h with
  | nil => exact .cons r .nil
  | cons r2 _ ih => exact .cons r2 ih
theorem ZR.keys {R : Str × List Str → V → Prop} {kvs : List (Key × V)} {cs : Cs} (h : ZR R kvs cs) : kvs.map (·.1) = cs.map fun p => (Sum.inr p.1 : Key) := by
  induction h with
  | nil => rfl
  | cons _ _ ih => rw [List.map_cons, List.map_cons, ih]
theorem ZR.get {R : Str × List Str → V → Prop} {kvs : List (Key × V)} {cs : Cs} (h : ZR R kvs cs) (t : Str) :
    (∃ c v, valV kvs (Sum.inr t) = some v ∧ (cs.find? fun c => decide (c.1 = t)) = some c ∧ R c v) ∨ (valV kvs (Sum.inr t) = none ∧ (cs.find? fun c => decide (c.1 = t)) = none) := by
  induction h with
  | nil => exact .inr ⟨rfl, rfl⟩
  | @cons c v kvs cs r _ ih =>
    by_cases e : c.1 = t
    · exact .inl ⟨c, v, valV_pos (by rw [e]), by rw [List.find?_cons_of_pos (by simp [e])], r⟩
    · rw [valV_neg (fun q => e (Sum.inr.inj q)), List.find?_cons_of_neg (by simp [e])]
      exact ih
theorem find_mem {cs : Cs} {t : Str} {c : Str × List Str} (h : (cs.find? fun c => decide (c.1 = t)) = some c) : c ∈ cs ∧ c.1 = t := ⟨List.mem_of_find?_eq_some h, of_decide_eq_true (List.find?_some (p := fun c : Str × List Str => decide (c.1 = t)) h)⟩
theorem find_none {cs : Cs} {t : Str} (h : (cs.find? fun c => decide (c.1 = t)) = none) : t ∉ cs.map (·.1) := fun m => by
  obtain ⟨c, m, e⟩ := List.mem_map.mp m
  have := List.find?_eq_none.mp h c m
  simp [e] at this
theorem find_no {cs : Cs} {t : Str} (h : t ∉ cs.map (·.1)) : (cs.find? fun c => decide (c.1 = t)) = none := List.find?_eq_none.mpr fun c m e => h (List.mem_map.mpr ⟨c, m, of_decide_eq_true e⟩)
theorem nx_find {cs : Cs} {t : Str} {c : Str × List Str} (h : (cs.find? fun c => decide (c.1 = t)) = some c) : nx cs t = c.2 := by unfold nx; rw [h]
theorem nx_nofind {cs : Cs} {t : Str} (h : (cs.find? fun c => decide (c.1 = t)) = none) : nx cs t = [] := by unfold nx; rw [h]
/-! ### who calls whom, in data -/
def namesD : PyData → List Str
  | .tuple [_, _, .tuple cl] => cl.map ttlD
  | _ => []
def csD : PyData → Cs
  | .tuple ds => ds.map fun d => (ttlD d, namesD d)
  | _ => []
def RL (H : Hp) (c : Str × List Str) (v : V) : Prop := ∃ l, v = .ref l ∧ H l = some (.lst (c.2.map V.str))
def RT (H : Hp) (cs : Cs) (c : Str × List Str) (v : V) : Prop := ∃ a ks, v = .ref a ∧ H a = some (.dK (ckS ks)) ∧ ks.Nodup ∧ ∀ z, z ∈ ks ↔ Rc cs c.1 z
/-- the dict of all that is reached -/
structure Tb (H : Hp) (r : Addr) (cs : Cs) (kvs : List (Key × V)) : Prop where
  at_ : H r = some (.dK kvs)
  zr : ZR (RT H cs) kvs cs
theorem ZR.cd {H : Hp} {c : Addr} {kvs : List (Key × V)} {cs : Cs} (rd : Rd H c (.dK kvs)) (h : ZR (RL H) kvs cs) : Cd H c kvs cs := by
  refine ⟨rd, h.keys, fun t => ?_⟩
  rcases h.get t with ⟨c, v, e1, e2, l, rfl, e3⟩ | ⟨e1, e2⟩
  · refine .inl ⟨l, e1, by rw [nx_find e2]; exact e3, ?_⟩
    obtain ⟨m, e⟩ := find_mem e2
    exact List.mem_map.mpr ⟨c, m, e⟩
  · exact .inr ⟨e1, nx_nofind e2, find_none e2⟩
theorem Tb.same {H H' : Hp} {r : Addr} {cs : Cs} {kvs : List (Key × V)} (t : Tb H r cs kvs) (e : Same H H') : Tb H' r cs kvs := ⟨e _ _ t.at_, t.zr.mono fun _ _ ⟨a, ks, h1, h2, h3⟩ => ⟨a, ks, h1, e _ _ h2, h3⟩⟩
theorem Tb.get {H : Hp} {r : Addr} {cs : Cs} {kvs : List (Key × V)} (h : Tb H r cs kvs) (t : Str) :
    (∃ a ks, valV kvs (Sum.inr t) = some (.ref a) ∧ t ∈ cs.map (·.1) ∧ H a = some (.dK (ckS ks)) ∧ ks.Nodup ∧ ∀ z, z ∈ ks ↔ Rc cs t z) ∨ (valV kvs (Sum.inr t) = none ∧ t ∉ cs.map (·.1)) := by
  rcases h.zr.get t with ⟨c, v, e1, e2, a, ks, rfl, e3, e4, e5⟩ | ⟨e1, e2⟩
  · obtain ⟨m, rfl⟩ := find_mem e2
    exact .inl ⟨a, ks, e1, List.mem_map.mpr ⟨c, m, rfl⟩, e3, e4, e5⟩
  · exact .inr ⟨e1, find_none e2⟩
def spTabG (K : PySem.W.Frag) : Sp := fun vs H Q _ => ∃ (x : V) (d : PyData), vs = [x] ∧ Dp K H x d ∧ Sz d ∧ isSheetsD d = true ∧ Small (csD d) ∧
  ∀ (r : Addr) (H' : Hp) (kvs : List (Key × V)), Same H H' → H r = none → Tb H' r (csD d) kvs → Q (.ref r) H'
def spTabB (C : Addr) (K : PySem.W.Frag) : Sp := fun vs H _ E => ∃ (x : V) (d : PyData), vs = [x] ∧ Dp K H x d ∧ Sz d ∧ isSheetsD d = false ∧ notUsable C "sheets" H E
theorem call_name {K : PySem.W.Frag} {H : Hp} {x : V} {d : PyData} (h : Dp K H x d) (e : isCallD d = true) : ∃ (a : Addr) (y : V), x = .ref a ∧ SqT K H a [.str (ttlD d), y] := by
  cases h with
  | non => cases e
  | bl b => cases e
  | int i => cases e
  | str z => cases e
  | lst h a => cases e
  | @tup a xs ds ha hx =>
    match ds, hx, e with
    | [d0, d1], hx, e =>
      have e0 : isTi d0 = true := (Bool.and_eq_true_iff.mp (show (isTi d0 && isN d1) = true from e)).1
      cases hx with
      | cons h0 t =>
        cases t with
        | cons h1 t =>
          cases t
          cases h0 with
          | str z => exact ⟨a, _, rfl, ha⟩
          | _ => cases e0
theorem sheet_row {K : PySem.W.Frag} {H : Hp} {x : V} {d : PyData} (h : Dp K H x d) (e : isSheetD d = true) : ∃ (a b : Addr) (y : V) (zs : List V) (cl : List PyData), x = .ref a ∧ SqT K H a [.str (ttlD d), y, .ref b] ∧ SqT K H b zs ∧ DpAll K H zs cl ∧ cl.all isCallD = true ∧ namesD d = cl.map ttlD := by
  cases h with
  | non => cases e
  | bl b => cases e
  | int i => cases e
  | str z => cases e
  | lst h a => cases e
  | @tup a xs ds ha hx =>
    match ds, hx, e with
    | [d0, d1, d2], hx, e =>
      have e' := Bool.and_eq_true_iff.mp (show (isTi d0 && (isN d1 && callsD d2)) = true from e)
      have e0 := e'.1
      have e2 := (Bool.and_eq_true_iff.mp e'.2).2
      cases hx with
      | cons h0 t =>
        cases t with
        | cons h1 t =>
          cases t with
          | cons h2 t =>
            cases t
            cases h0 with
            | str z =>
              cases h2 with
              | tup hb hy => exact ⟨a, _, _, _, _, rfl, ha, hb, hy, e2, rfl⟩
              | _ => cases e2
            | _ => cases e0
theorem notin_take {l : List Str} (h : l.Nodup) {i : Nat} {x : Str} (e : l[i]? = some x) : x ∉ l.take i := fun m => by
  obtain ⟨hi, ex⟩ := List.getElem?_eq_some_iff.mp e
  rw [← List.take_append_drop i l] at h
  refine (List.nodup_append.mp h).2.2 x m x ?_ rfl
  rw [List.drop_eq_getElem_cons hi, ex]
  exact List.mem_cons_self
theorem len_all {ds : List PyData} (h : Small (csD (.tuple ds))) : ds.length ≤ 60 := by
  have := h.2
  unfold csD at this
  rw [List.length_map] at this
  exact this
section
variable {P : Program} {w : World} {K : PySem.W.Frag} {mg : Str → Option Value} {base : Heap}
theorem ok_tabB (T : Txt K mg) : FnOk P w K mg base (L2N.CX P w) 6 T.f_reached_tables T.d_reached_tables ["sheets"] (spTabB T.C_NotUsable K) := by
  have nd := sc_reached_tables.nd
  refine okXN T.F_reached_tables sc_reached_tables (fun vs H Q E h => ?_) (fun cdv A outer s H vs Q E hr h => ?_)
  · obtain ⟨x, d, rfl, _⟩ := h
    rfl
  obtain ⟨x, d, rfl, hd, hz, hb, k⟩ := h
  have G_is_sheets : FnOk P w K mg base CX0 5 _ _ _ (spG isSheetsD K) := ok_is_sheets T
  have hr_is_sheets := hr
  have G_NotUsable__init__ : FnOk P w K mg base CX0 1 _ _ _ (spInit T.C_NotUsable) := ok_init T
  have hr_NotUsable__init__ := hr.mono (j := 2) (by omega)
  refine ⟨_, (pss_cons (ps_if (pt_not (pt_val (pe_call G_is_sheets hr_is_sheets rfl T.m_is_sheets T.k_is_sheets T.b_is_sheets .nil pass0 (pa_cons (pv 0) pa_nil)))) (pss_one (L2N.ps_raise rfl (L2N.takes_of rfl rfl rfl rfl) (pmk_oexN T.x_NotUsable T.i_NotUsable T.t_NotUsable G_NotUsable__init__ hr_NotUsable__init__ T.b_NotUsable__init__ .nil pass0 rfl T.mC_NotUsable (by exact (pa_cons pe_str (pa_cons (pe_un un_neg pe_int) pa_nil)))))) pss_nil)
      (pss_cons ps_never (pss_one ps_never))), ?_⟩
  refine ⟨_, rfl, x, d, rfl, hd, hz, fun H1 e1 => ?_⟩
  rw [hb]
  refine ⟨_, rfl, iteT ?_⟩
  exact ⟨_, rfl, (by show 2 ≤ 1000; decide), made fun d1 H2 e2 hn2 he => k d1 H2 (e1.trans e2) (none_of e1 hn2) he⟩
theorem ok_tabG (T : Txt K mg) : FnOk P w K mg base CX0 6 T.f_reached_tables T.d_reached_tables ["sheets"] (spTabG K) := by
  have nd := sc_reached_tables.nd
  refine T.F_reached_tables.ok sc_reached_tables (fun vs H Q E h => ?_) (fun cdv A outer s H vs Q E hr h => ?_)
  · obtain ⟨x, d, rfl, _⟩ := h
    rfl
  obtain ⟨x, d, rfl, hd, hz, hb, hs, k⟩ := h
  have G_is_sheets : FnOk P w K mg base CX0 5 _ _ _ (spG isSheetsD K) := ok_is_sheets T
  have hr_is_sheets := hr
  have G__reached : FnOk P w K mg base CX0 1 _ _ _ (spReach K) := ok_reached T
  have hr__reached := hr.mono (j := 1) (by omega)
  refine ⟨_, (pss_cons (ps_if (pt_not (pt_val (pe_call G_is_sheets hr_is_sheets rfl T.m_is_sheets T.k_is_sheets T.b_is_sheets .nil pass0 (pa_cons (pv 0) pa_nil)))) (pss_one ps_never) pss_nil)
      (pss_cons (ps_set (i := 1) nd rfl (Or.inr rfl) (pe_dc (own := [("title", 2), ("_", 3), ("calls", 4)]) (g := gTup K 3 (gCons (gName 2) (gCons (gName 3) (gCons (gName 4) gNil)))) (tt := tYes) (by rfl) nd (pi_tup (pv 0)) (blkOk_by (own := [("title", 2), ("_", 3), ("calls", 4)]) (N := sl_reached_tables) (sc := defScope s_reached_tables) (by decide +kernel)) (fun _ _ _ _ _ => by exact (pg_tup rfl (pgs_cons (pg_name (i := 2) nd rfl (Or.inl rfl)) (pgs_cons (pg_name (i := 3) nd rfl (Or.inl rfl)) (pgs_cons (pg_name (i := 4) nd rfl (Or.inl rfl)) pgs_nil))))) (fun _ _ _ _ _ => pts_nil) (fun _ _ _ _ _ => (pv 2)) (fun _ _ _ _ _ => (by exact (pe_lc (own := [("name", 5), ("_", 3)]) (g := gTup K 2 (gCons (gName 5) (gCons (gName 3) gNil))) (tt := tYes) (by rfl) nd (pi_tupK (K := K) rfl (pv 4)) (by exact blkOk_by (own := [("name", 5), ("_", 3)]) (N := sl_reached_tables) (by kernel_rfl)) (fun _ _ _ _ _ => by exact (pg_tup rfl (pgs_cons (pg_name (i := 5) nd rfl (Or.inl rfl)) (pgs_cons (pg_name (i := 3) nd rfl (Or.inl rfl)) pgs_nil)))) (fun _ _ _ _ _ => pts_nil) (fun _ _ _ _ _ => (pv 5)))))))
      (pss_one (ps_ret (pe_lock (pe_dc (own := [("title", 2)]) (g := gName 2) (tt := tYes) (by rfl) nd (pi_keys (pv 1)) (blkOk_by (own := [("title", 2)]) (N := sl_reached_tables) (sc := defScope s_reached_tables) (by decide +kernel)) (fun _ _ _ _ _ => pg_name (i := 2) nd rfl (Or.inl rfl)) (fun _ _ _ _ _ => pts_nil) (fun _ _ _ _ _ => (pv 2)) (fun _ _ _ _ _ => (pe_call G__reached hr__reached rfl T.m__reached T.k__reached T.b__reached .nil pass0 (pa_cons (pv 1) (pa_cons (pv 2) pa_nil)))))))))), ?_⟩
  refine ⟨_, rfl, x, d, rfl, hd, hz, fun H1 e1 => ?_⟩
  rw [hb]
  refine ⟨_, rfl, iteF ?_⟩
  have hd1 := dp_same e1 hd
  cases hd1 with
  | non => cases hb
  | bl b => cases hb
  | int i => cases hb
  | str z => cases hb
  | lst h a => cases hb
  | @tup a xs ds ha hx =>
    have hl := dp_len hx
    have hl60 := len_all hs
    obtain ⟨hall, hnd⟩ := Bool.and_eq_true_iff.mp (show (ds.all isSheetD && decide (ds.map ttlD).Nodup) = true from hb)
    have hnd := of_decide_eq_true hnd
    refine ⟨_, rfl, a, rfl, ⟨_, ha⟩, fun C hC => ?_⟩
    refine dc_tup (K := K) (a := a) (xs := xs) (fun i H' => Same H1 H' ∧ ∃ kvs, H' C = some (.dK kvs) ∧ ZR (RL H') kvs ((csD (.tuple ds)).take i)) ?_ ?_ ?_ ?_
    · exact ⟨same_new hC _, [], upd_same, .nil⟩
    · rintro i H' _ ⟨e, _⟩
      exact seqT_same e ha
    · rintro i z H' hiz ⟨e, kvs, hDl, hzr⟩
      obtain ⟨d, md, hdi, hdx⟩ := dp_get hx hiz
      have hi : i < ds.length := (List.getElem?_eq_some_iff.mp hdi).1
      obtain ⟨b, bc, y, zs, cl, rfl, hb1, hb2, hb3, hb4, hb5⟩ := sheet_row (dp_same e hdx) (List.all_eq_true.mp hall d md)
      refine ⟨b, _, rfl, hb1, rfl, _, _, rfl, _, _, rfl, _, _, rfl, rfl, rfl, ?_⟩
      refine ⟨_, rfl, _, rfl, bc, rfl, ⟨_, hb2⟩, fun D hD => ?_⟩
      have hDC : D ≠ C := fun q => by rw [q, hDl] at hD; cases hD
      have hlz := dp_len hb3
      have hci : (csD (.tuple ds))[i]? = some (ttlD d, namesD d) := by show (ds.map _)[i]? = _; rw [List.getElem?_map, hdi]; rfl
      have hcl : cl.length ≤ 60 := by
        have := len_flat (List.mem_of_getElem? hci)
        have h60 := hs.1
        simp only [hb5, List.length_map] at this
        omega
      refine lc_tup (K := K) (a := bc) (xs := zs) (fun j H2 => Same H' H2 ∧ H2 D = some (.lst (((cl.take j).map ttlD).map V.str))) ?_ ?_ ?_ ?_
      · exact ⟨same_new hD _, upd_same⟩
      · rintro j H2 _ ⟨e2, _⟩
        exact seqT_same e2 hb2
      · rintro j v H2 hjv ⟨e2, hD2⟩
        obtain ⟨dc, mdc, hdj, hdv⟩ := dp_get hb3 hjv
        have hj : j < cl.length := (List.getElem?_eq_some_iff.mp hdj).1
        obtain ⟨ac, yc, rfl, hac⟩ := call_name (dp_same e2 hdv) (List.all_eq_true.mp hb4 dc mdc)
        refine ⟨ac, _, rfl, hac, rfl, _, _, rfl, _, _, rfl, rfl, rfl, ?_⟩
        refine ⟨_, rfl, _, hD2, (by rw [List.length_map, List.length_map, List.length_take]; exact szl (by omega)), same_mut e2 hD, ?_⟩
        rw [upd_same, List.take_succ, hdj, List.map_append, List.map_append]
        rfl
      · rintro H2 ⟨e2, hD2⟩
        rw [hlz, List.take_length] at hD2
        have hno : ttlD d ∉ ((csD (.tuple ds)).take i).map (·.1) := by
          rw [List.map_take]
          have em : (csD (.tuple ds)).map (·.1) = ds.map ttlD := by show (ds.map _).map _ = _; rw [List.map_map]; rfl
          rw [em]
          exact notin_take hnd (by rw [List.getElem?_map, hdi]; rfl)
        have hv : valV kvs (Sum.inr (ttlD d)) = none := by
          rcases hzr.get (ttlD d) with ⟨c, v, _, e3, _⟩ | ⟨e3, _⟩
          · obtain ⟨m, e4⟩ := find_mem e3
            exact absurd (List.mem_map.mpr ⟨c, m, e4⟩) hno
          · exact e3
        have hkl : kvs.length ≤ 60 := by
          have := congrArg List.length hzr.keys
          simp only [List.length_map, List.length_take] at this
          unfold csD at this
          simp only [List.length_map] at this
          omega
        refine ⟨kvs, Sum.inr (ttlD d), rfl, e2 _ _ hDl, szl (by omega), ?_, ?_⟩
        · exact same_mut (e.trans e2) hC
        · refine ⟨_, upd_same, ?_⟩
          rw [putK_new _ hv, List.take_succ, hci]
          refine ZR.snoc (c := (ttlD d, namesD d)) (hzr.mono fun c v ⟨l, h1, h2⟩ => ⟨l, h1, ?_⟩) ⟨D, rfl, ?_⟩
          · rw [upd_ne (fun q => by rw [q, hDl] at h2; cases h2)]
            exact e2 _ _ h2
          · rw [upd_ne hDC, hD2, hb5]
    · rintro H2 ⟨e2, kvs, hDl, hzr⟩
      have hlc : (csD (.tuple ds)).length = ds.length := by show (ds.map _).length = _; rw [List.length_map]
      rw [hl, ← hlc, List.take_length] at hzr
      generalize ecs : csD (.tuple ds) = cs at hzr hs k hlc
      have hnc : (cs.map (·.1)).Nodup := by
        rw [← ecs]
        show ((ds.map _).map _).Nodup
        rw [List.map_map]
        exact hnd
      have hkl : kvs.length = cs.length := by
        have := congrArg List.length hzr.keys
        simpa using this
      have hcH : H C = none := none_of e1 hC
      refine ⟨C, .dK kvs, hDl, True.intro, fun od => ?_⟩
      have hcd : Cd (upd H2 C (.frz od (.dK kvs))) C kvs cs := ZR.cd (.inr ⟨od, upd_same⟩) (hzr.mono fun c v ⟨l, h1, h2⟩ => ⟨l, h1, by rw [upd_ne (fun q => by rw [q, hDl] at h2; cases h2)]; exact h2⟩)
      have eH : Same H (upd H2 C (.frz od (.dK kvs))) := same_mut (e1.trans e2) hcH
      have hf : (upd H2 C (.frz od (.dK kvs))) C = some (.frz od (.dK kvs)) := upd_same
      generalize upd H2 C (.frz od (.dK kvs)) = H3 at hcd eH hf
      refine ⟨_, rfl, C, od, rfl, .inl ⟨kvs, hf, fun D hD => ?_⟩⟩
      refine dc_it walk_keys (fun i H' => Same H3 H' ∧ ∃ kv2, H' D = some (.dK kv2) ∧ ZR (fun c v => RT H' cs c v ∧ v ≠ .ref D) kv2 (cs.take i)) ?_ ?_ ?_ ?_
      · exact ⟨same_new hD _, [], upd_same, .nil⟩
      · rintro i H' _ ⟨e, _⟩
        exact e _ _ hf
      · rintro i z H' H'' hi ⟨e, kv2, hD2, hz2⟩ ⟨rfl, kk, vv, hkv, rfl⟩
        have hck : (cs.map fun p => (Sum.inr p.1 : Key))[i]? = some kk := by rw [← hzr.keys, List.getElem?_map, hkv]; rfl
        rw [List.getElem?_map] at hck
        obtain ⟨c, hci, rfl⟩ := Option.map_eq_some_iff.mp hck
        have hic : i < cs.length := (List.getElem?_eq_some_iff.mp hci).1
        have hmc := List.mem_of_getElem? hci
        refine ⟨rfl, ?_⟩
        refine ⟨_, rfl, ?_⟩
        refine ⟨_, rfl, _, rfl, C, c.1, kvs, cs, rfl, hcd.same e, hs, List.mem_map.mpr ⟨c, hmc, rfl⟩, fun r H4 ks e4 hr4 h4 hn4 ha4 => ?_⟩
        have hno : c.1 ∉ (cs.take i).map (·.1) := by
          rw [List.map_take]
          exact notin_take hnc (by rw [List.getElem?_map, hci]; rfl)
        have hv : valV kv2 (Sum.inr c.1) = none := by
          rcases hz2.get c.1 with ⟨c, v, _, e3, _⟩ | ⟨e3, _⟩
          · obtain ⟨m, e4⟩ := find_mem e3
            exact absurd (List.mem_map.mpr ⟨c, m, e4⟩) hno
          · exact e3
        have hk2 : kv2.length ≤ 60 := by
          have := congrArg List.length hz2.keys
          simp only [List.length_map, List.length_take] at this
          have := hs.2
          omega
        refine ⟨kv2, Sum.inr c.1, rfl, e4 _ _ hD2, szl (by omega), same_mut (e.trans e4) hD, _, upd_same, ?_⟩
        rw [putK_new _ hv, List.take_succ, hci]
        have hrD : r ≠ D := fun q => by rw [q, hD2] at hr4; cases hr4
        refine ZR.snoc (c := c) (hz2.mono fun c v ⟨⟨a, ks, h1, h2, h3⟩, hne⟩ => ⟨⟨a, ks, h1, ?_, h3⟩, hne⟩) ⟨⟨r, ks, rfl, by rw [upd_ne hrD]; exact h4, hn4, ha4⟩, fun q => hrD (V.ref.inj q)⟩
        rw [upd_ne (fun q => hne (by rw [h1, q]))]
        exact e4 _ _ h2
      · rintro H4 ⟨e4, kv2, hD2, hz2⟩
        rw [hkl, List.take_length] at hz2
        have hDC : D ≠ C := fun q => by rw [q, hf] at hD; cases hD
        refine ⟨e4 _ _ hf, ?_⟩
        refine k D _ kv2 (same_mut (eH.trans e4) hcH) (none_of eH hD) ⟨?_, ?_⟩
        · rw [upd_ne hDC]; exact hD2
        · refine hz2.mono fun c v ⟨⟨a, ks, h1, h2, h3⟩, _⟩ => ⟨a, ks, h1, ?_, h3⟩
          rw [upd_ne (fun q => by rw [q, e4 _ _ hf] at h2; cases h2)]
          exact h2
end
end Lk

set_option Elab.async false
set_option linter.all false
set_option maxRecDepth 100000
set_option maxHeartbeats 4000000
set_option pp.maxSteps 1500
namespace Lk
open PySem PySem.Spec PyProof.Rows L2
def titB (cs : Cs) : PyData → Bool
  | .str z => decide (z ∈ cs.map (·.1))
  | _ => false
def spCkG (K : PySem.W.Frag) : Sp := fun vs H Q _ => ∃ (x : V) (d : PyData) (r : Addr) (kvs : List (Key × V)) (cs : Cs), vs = [x, .ref r] ∧ Dp K H x d ∧ Tb H r cs kvs ∧ titB cs d = true ∧ Q .non H
def spCkB (C : Addr) (K : PySem.W.Frag) : Sp := fun vs H _ E => ∃ (x : V) (d : PyData) (r : Addr) (kvs : List (Key × V)) (cs : Cs), vs = [x, .ref r] ∧ Dp K H x d ∧ Tb H r cs kvs ∧ titB cs d = false ∧ missing C x H E
theorem Tb.some {H : Hp} {r : Addr} {cs : Cs} {kvs : List (Key × V)} (h : Tb H r cs kvs) (z : Str) : (valV kvs (Sum.inr z)).isSome = decide (z ∈ cs.map (·.1)) := by
  rcases h.get z with ⟨a, ks, e, m, _⟩ | ⟨e, m⟩
  · rw [e, decide_eq_true m]; rfl
  · rw [e, decide_eq_false m]; rfl
/-- sheets that are none -/
def spOffB (n : Nat) (C : Addr) (K : PySem.W.Frag) : Sp := fun vs H _ E => ∃ (x : V) (d : PyData) (r : List V), vs = x :: r ∧ r.length = n ∧ Dp K H x d ∧ Sz d ∧ isSheetsD d = false ∧ notUsable C "sheets" H E
def spFromM (C : Addr) (K : PySem.W.Frag) : Sp := fun vs H _ E => ∃ (x y : V) (d e : PyData), vs = [x, y] ∧ Dp K H x d ∧ Dp K H y e ∧ Sz d ∧ isSheetsD d = true ∧ Small (csD d) ∧ titB (csD d) e = false ∧ missing C y H E
/-- what one title reaches, in order -/
def spFromG (K : PySem.W.Frag) : Sp := fun vs H Q _ => ∃ (x : V) (t : Str) (d : PyData), vs = [x, .str t] ∧ Dp K H x d ∧ Sz d ∧ isSheetsD d = true ∧ Small (csD d) ∧ t ∈ (csD d).map (·.1) ∧
  ∀ (p : Addr) (H' : Hp) (ks : List Str), Same H H' → H' p = some (.tup ((srt ks).map V.str)) → ks.Nodup → (∀ z, z ∈ ks ↔ Rc (csD d) t z) → Q (.ref p) H'
def spRingM (C : Addr) (K : PySem.W.Frag) : Sp := fun vs H _ E => ∃ (x y z : V) (d e : PyData), vs = [x, y, z] ∧ Dp K H x d ∧ Dp K H y e ∧ Sz d ∧ isSheetsD d = true ∧ Small (csD d) ∧ titB (csD d) e = false ∧ missing C y H E
def spRingT (C : Addr) (K : PySem.W.Frag) : Sp := fun vs H _ E => ∃ (x y z : V) (d e f : PyData), vs = [x, y, z] ∧ Dp K H x d ∧ Dp K H y e ∧ Dp K H z f ∧ Sz d ∧ isSheetsD d = true ∧ Small (csD d) ∧ titB (csD d) e = true ∧ titB (csD d) f = false ∧ missing C z H E
def spRingG (K : PySem.W.Frag) : Sp := fun vs H Q _ => ∃ (x : V) (t u : Str) (d : PyData), vs = [x, .str t, .str u] ∧ Dp K H x d ∧ Sz d ∧ isSheetsD d = true ∧ Small (csD d) ∧ t ∈ (csD d).map (·.1) ∧ u ∈ (csD d).map (·.1) ∧
  ∀ (b : Bool) (H' : Hp), Same H H' → (b = true ↔ (t = u ∨ Rc (csD d) u t)) → Q (.bl b) H'
theorem ckS_keys (ks : List Str) : (ckS ks).map (·.1) = ks.map fun z => (Sum.inr z : Key) := by unfold ckS; rw [List.map_map]; rfl
theorem rc_len {cs : Cs} {t : Str} {ks : List Str} (h : Small cs) (nd : ks.Nodup) (e : ∀ z, z ∈ ks ↔ Rc cs t z) : ks.length ≤ 60 := Nat.le_trans (nodup_len nd fun z m => ((e z).mp m).flat) h.1
section
variable {P : Program} {w : World} {K : PySem.W.Frag} {mg : Str → Option Value} {base : Heap}
theorem ok_ckG (T : Txt K mg) : FnOk P w K mg base CX0 1 T.f__check_title T.d__check_title ["title", "titles"] (spCkG K) := by
  have nd := sc__check_title.nd
  refine T.F__check_title.ok sc__check_title (fun vs H Q E h => ?_) (fun cdv A outer s H vs Q E hr h => ?_)
  · obtain ⟨x, d, r, kvs, cs, rfl, _⟩ := h
    rfl
  obtain ⟨x, d, r, kvs, cs, rfl, hd, ht, hb, k⟩ := h
  refine ⟨_, (pss_one (ps_if (PW.pt (pw_or (pt_not (pt_val (pe_callB call_isi (by rfl) T.z_isinstance (by decide +kernel) (pa_cons (pv 0) (pa_cons (pe_bltn (v := .ty "str") rfl T.z_str (by decide +kernel) rfl) pa_nil))))) (pw_or1 (pt_cmp (pc_dnotin (hu1 hr) (pv 0) (pv 1)) (by rfl))))) (pss_one ps_never) pss_nil)), ?_⟩
  refine ⟨_, rfl, x, .ty "str", _, _, _, rfl, .ty "str", ty_of hd, kit_str hd, ?_⟩
  cases hd with
  | str z =>
    refine ⟨_, rfl, iteF ?_⟩
    refine ⟨_, rfl, _, rfl, r, _, rfl, .inl ⟨kvs, Sum.inr z, .inl ht.at_, rfl, rfl⟩, ?_⟩
    rw [ht.some, show decide (z ∈ cs.map (·.1)) = true from hb]
    exact ⟨_, rfl, iteF k⟩
  | _ => cases hb
theorem ok_ckB (T : Txt K mg) : FnOk P w K mg base (L2N.CX P w) 3 T.f__check_title T.d__check_title ["title", "titles"] (spCkB T.C_Missing K) := by
  have nd := sc__check_title.nd
  refine okXN T.F__check_title sc__check_title (fun vs H Q E h => ?_) (fun cdv A outer s H vs Q E hr h => ?_)
  · obtain ⟨x, d, r, kvs, cs, rfl, _⟩ := h
    rfl
  obtain ⟨x, d, r, kvs, cs, rfl, hd, ht, hb, k⟩ := h
  have G_Missing__init__ : FnOk P w K mg base CX0 1 _ _ _ (spInit1 T.C_Missing) := ok_init1 T
  have hr_Missing__init__ := hr
  refine ⟨_, (pss_one (ps_if (PW.pt (pw_or (pt_not (pt_val (pe_callB call_isi (by rfl) T.z_isinstance (by decide +kernel) (pa_cons (pv 0) (pa_cons (pe_bltn (v := .ty "str") rfl T.z_str (by decide +kernel) rfl) pa_nil))))) (pw_or1 (pt_cmp (pc_dnotin (hu1 hr) (pv 0) (pv 1)) (by rfl))))) (pss_one (L2N.ps_raise rfl (L2N.takes_of rfl rfl rfl rfl) (pmk_oexN T.x_Missing T.i_Missing T.t_Missing G_Missing__init__ hr_Missing__init__ T.b_Missing__init__ .nil pass0 rfl T.mC_Missing (by exact (pa_cons (pv 0) pa_nil))))) pss_nil)), ?_⟩
  have go : ∀ a, H a = none → _ := made1 k
  refine ⟨_, rfl, x, .ty "str", _, _, _, rfl, .ty "str", ty_of hd, kit_str hd, ?_⟩
  cases hd with
  | str z =>
    refine ⟨_, rfl, iteF ?_⟩
    refine ⟨_, rfl, _, rfl, r, _, rfl, .inl ⟨kvs, Sum.inr z, .inl ht.at_, rfl, rfl⟩, ?_⟩
    rw [ht.some, show decide (z ∈ cs.map (·.1)) = false from hb]
    exact ⟨_, rfl, iteT ⟨_, rfl, (by show 1 ≤ 1000; decide), go⟩⟩
  | non => exact ⟨_, rfl, iteT ⟨_, rfl, (by show 1 ≤ 1000; decide), go⟩⟩
  | bl b => exact ⟨_, rfl, iteT ⟨_, rfl, (by show 1 ≤ 1000; decide), go⟩⟩
  | int i => exact ⟨_, rfl, iteT ⟨_, rfl, (by show 1 ≤ 1000; decide), go⟩⟩
  | lst h a => exact ⟨_, rfl, iteT ⟨_, rfl, (by show 1 ≤ 1000; decide), go⟩⟩
  | tup h a => exact ⟨_, rfl, iteT ⟨_, rfl, (by show 1 ≤ 1000; decide), go⟩⟩
theorem ok_fromB (T : Txt K mg) : FnOk P w K mg base (L2N.CX P w) 7 T.f_reached_from T.d_reached_from ["sheets", "name"] (spOffB 1 T.C_NotUsable K) := by
  have nd := sc_reached_from.nd
  refine okXN T.F_reached_from sc_reached_from (fun vs H Q E h => ?_) (fun cdv A outer s H vs Q E hr h => ?_)
  · obtain ⟨x, d, r, rfl, e, _⟩ := h
    simp [e]
  obtain ⟨x, d, r, rfl, er, hd, hz, hb, k⟩ := h
  obtain ⟨y, rfl⟩ : ∃ y, r = [y] := List.length_eq_one_iff.mp er
  have G_reached_tables : FnOk P w K mg base (L2N.CX P w) 6 _ _ _ (spTabB T.C_NotUsable K) := ok_tabB T
  have hr_reached_tables := hr
  refine ⟨_, (pss_cons (ps_set (i := 2) nd rfl (Or.inl rfl) (pe_call G_reached_tables hr_reached_tables rfl T.m_reached_tables T.k_reached_tables T.b_reached_tables .nil (L2N.passes_call (L2N.takes_of rfl rfl rfl rfl) (fun _ _ _ _ h => h)) (pa_cons (pv 0) pa_nil)))
      (pss_cons ps_never (pss_one ps_never))), ?_⟩
  exact ⟨_, rfl, x, d, rfl, hd, hz, hb, k⟩
theorem ok_fromM (T : Txt K mg) : FnOk P w K mg base (L2N.CX P w) 7 T.f_reached_from T.d_reached_from ["sheets", "name"] (spFromM T.C_Missing K) := by
  have nd := sc_reached_from.nd
  refine okXN T.F_reached_from sc_reached_from (fun vs H Q E h => ?_) (fun cdv A outer s H vs Q E hr h => ?_)
  · obtain ⟨x, y, d, e, rfl, _⟩ := h
    rfl
  obtain ⟨x, y, d, e, rfl, hd, he, hz, hb, hs, ht, k⟩ := h
  have G_reached_tables : FnOk P w K mg base CX0 6 _ _ _ (spTabG K) := ok_tabG T
  have hr_reached_tables := hr
  have G__check_title : FnOk P w K mg base (L2N.CX P w) 3 _ _ _ (spCkB T.C_Missing K) := ok_ckB T
  have hr__check_title := hr.mono (j := 3) (by omega)
  refine ⟨_, (pss_cons (ps_set (i := 2) nd rfl (Or.inl rfl) (pe_call G_reached_tables hr_reached_tables rfl T.m_reached_tables T.k_reached_tables T.b_reached_tables .nil pass0 (pa_cons (pv 0) pa_nil)))
      (pss_cons (ps_expr (pe_call G__check_title hr__check_title rfl T.m__check_title T.k__check_title T.b__check_title .nil (L2N.passes_call (L2N.takes_of rfl rfl rfl rfl) (fun _ _ _ _ h => h)) (pa_cons (pv 1) (pa_cons (pv 2) pa_nil))))
      (pss_one ps_never))), ?_⟩
  refine ⟨_, rfl, x, d, rfl, hd, hz, hb, hs, fun r H1 kvs e1 hr1 tb => ?_⟩
  exact ⟨_, rfl, _, rfl, y, e, r, kvs, _, rfl, dp_same e1 he, tb, ht, fun d1 H2 e2 hn2 he2 => k d1 H2 (e1.trans e2) (none_of e1 hn2) he2⟩
theorem ok_fromG (T : Txt K mg) : FnOk P w K mg base CX0 7 T.f_reached_from T.d_reached_from ["sheets", "name"] (spFromG K) := by
  have nd := sc_reached_from.nd
  refine T.F_reached_from.ok sc_reached_from (fun vs H Q E h => ?_) (fun cdv A outer s H vs Q E hr h => ?_)
  · obtain ⟨x, t, d, rfl, _⟩ := h
    rfl
  obtain ⟨x, t, d, rfl, hd, hz, hb, hs, ht, k⟩ := h
  have G_reached_tables : FnOk P w K mg base CX0 6 _ _ _ (spTabG K) := ok_tabG T
  have hr_reached_tables := hr
  have G__check_title : FnOk P w K mg base CX0 1 _ _ _ (spCkG K) := ok_ckG T
  have hr__check_title := hr.mono (j := 1) (by omega)
  refine ⟨_, (pss_cons (ps_set (i := 2) nd rfl (Or.inl rfl) (pe_call G_reached_tables hr_reached_tables rfl T.m_reached_tables T.k_reached_tables T.b_reached_tables .nil pass0 (pa_cons (pv 0) pa_nil)))
      (pss_cons (ps_expr (pe_call G__check_title hr__check_title rfl T.m__check_title T.k__check_title T.b__check_title .nil pass0 (pa_cons (pv 1) (pa_cons (pv 2) pa_nil))))
      (pss_one (ps_ret (pe_callTy call_tuple_of (by rfl) T.z_tuple (by decide +kernel) (pa_cons (pe_callB (call_sortedD (by rfl)) (by rfl) T.z_sorted (by decide +kernel) (pa_cons (pe_dget (hu1 hr) (pv 2) (pv 1) (fun _ _ => rfl)) pa_nil)) pa_nil)))))), ?_⟩
  refine ⟨_, rfl, x, d, rfl, hd, hz, hb, hs, fun r H1 kvs e1 hr1 tb => ?_⟩
  refine ⟨_, rfl, _, rfl, _, .str t, r, kvs, _, rfl, .str t, tb, decide_eq_true ht, ?_⟩
  obtain ⟨a, ks, y1, _, y2, y3, y4⟩ : ∃ a ks, valV kvs (Sum.inr t) = some (.ref a) ∧ t ∈ (csD d).map (·.1) ∧ H1 a = some (.dK (ckS ks)) ∧ ks.Nodup ∧ ∀ z, z ∈ ks ↔ Rc (csD d) t z := by
    rcases tb.get t with q | ⟨_, q⟩
    · exact q
    · exact absurd ht q
  have hk := rc_len hs y3 y4
  refine ⟨_, rfl, _, rfl, r, .ref a, rfl, .inl ⟨kvs, Sum.inr t, .inl tb.at_, rfl, y1.symm⟩, a, _, ks, rfl, .inl y2, ckS_keys ks, by omega, fun ys p hp hso hn => ?_⟩
  rw [srt_eq hp hso]
  refine ⟨p, _, rfl, .inl ⟨SqL.of upd_same, fun q hq => ?_⟩⟩
  exact k q _ ks ((e1.trans (same_new hn _)).trans (same_new hq _)) upd_same y3 y4
theorem ok_ringB (T : Txt K mg) : FnOk P w K mg base (L2N.CX P w) 7 T.f_is_ring_call T.d_is_ring_call ["sheets", "caller", "called"] (spOffB 2 T.C_NotUsable K) := by
  have nd := sc_is_ring_call.nd
  refine okXN T.F_is_ring_call sc_is_ring_call (fun vs H Q E h => ?_) (fun cdv A outer s H vs Q E hr h => ?_)
  · obtain ⟨x, d, r, rfl, e, _⟩ := h
    simp [e]
  obtain ⟨x, d, r, rfl, er, hd, hz, hb, k⟩ := h
  obtain ⟨y, z, rfl⟩ : ∃ y z, r = [y, z] := by
    match r, er with
    | [y, z], _ => exact ⟨y, z, rfl⟩
  have G_reached_tables : FnOk P w K mg base (L2N.CX P w) 6 _ _ _ (spTabB T.C_NotUsable K) := ok_tabB T
  have hr_reached_tables := hr
  refine ⟨_, (pss_cons (ps_set (i := 3) nd rfl (Or.inl rfl) (pe_call G_reached_tables hr_reached_tables rfl T.m_reached_tables T.k_reached_tables T.b_reached_tables .nil (L2N.passes_call (L2N.takes_of rfl rfl rfl rfl) (fun _ _ _ _ h => h)) (pa_cons (pv 0) pa_nil)))
      (pss_cons ps_never (pss_cons ps_never (pss_one ps_never)))), ?_⟩
  exact ⟨_, rfl, x, d, rfl, hd, hz, hb, k⟩
theorem ok_ringM (T : Txt K mg) : FnOk P w K mg base (L2N.CX P w) 7 T.f_is_ring_call T.d_is_ring_call ["sheets", "caller", "called"] (spRingM T.C_Missing K) := by
  have nd := sc_is_ring_call.nd
  refine okXN T.F_is_ring_call sc_is_ring_call (fun vs H Q E h => ?_) (fun cdv A outer s H vs Q E hr h => ?_)
  · obtain ⟨x, y, z, d, e, rfl, _⟩ := h
    rfl
  obtain ⟨x, y, z, d, e, rfl, hd, he, hz, hb, hs, ht, k⟩ := h
  have G_reached_tables : FnOk P w K mg base CX0 6 _ _ _ (spTabG K) := ok_tabG T
  have hr_reached_tables := hr
  have G__check_title : FnOk P w K mg base (L2N.CX P w) 3 _ _ _ (spCkB T.C_Missing K) := ok_ckB T
  have hr__check_title := hr.mono (j := 3) (by omega)
  refine ⟨_, (pss_cons (ps_set (i := 3) nd rfl (Or.inl rfl) (pe_call G_reached_tables hr_reached_tables rfl T.m_reached_tables T.k_reached_tables T.b_reached_tables .nil pass0 (pa_cons (pv 0) pa_nil)))
      (pss_cons (ps_expr (pe_call G__check_title hr__check_title rfl T.m__check_title T.k__check_title T.b__check_title .nil (L2N.passes_call (L2N.takes_of rfl rfl rfl rfl) (fun _ _ _ _ h => h)) (pa_cons (pv 1) (pa_cons (pv 3) pa_nil))))
      (pss_cons ps_never (pss_one ps_never)))), ?_⟩
  refine ⟨_, rfl, x, d, rfl, hd, hz, hb, hs, fun r H1 kvs e1 hr1 tb => ?_⟩
  exact ⟨_, rfl, _, rfl, y, e, r, kvs, _, rfl, dp_same e1 he, tb, ht, fun d1 H2 e2 hn2 he2 => k d1 H2 (e1.trans e2) (none_of e1 hn2) he2⟩
theorem ok_ringT (T : Txt K mg) : FnOk P w K mg base (L2N.CX P w) 7 T.f_is_ring_call T.d_is_ring_call ["sheets", "caller", "called"] (spRingT T.C_Missing K) := by
  have nd := sc_is_ring_call.nd
  refine okXN T.F_is_ring_call sc_is_ring_call (fun vs H Q E h => ?_) (fun cdv A outer s H vs Q E hr h => ?_)
  · obtain ⟨x, y, z, d, e, f, rfl, _⟩ := h
    rfl
  obtain ⟨x, y, z, d, e, f, rfl, hd, he, hf, hz, hb, hs, ht, ht2, k⟩ := h
  have G_reached_tables : FnOk P w K mg base CX0 6 _ _ _ (spTabG K) := ok_tabG T
  have hr_reached_tables := hr
  have G_good : FnOk P w K mg base CX0 1 _ _ _ (spCkG K) := ok_ckG T
  have hr_good := hr.mono (j := 1) (by omega)
  have G__check_title : FnOk P w K mg base (L2N.CX P w) 3 _ _ _ (spCkB T.C_Missing K) := ok_ckB T
  have hr__check_title := hr.mono (j := 3) (by omega)
  refine ⟨_, (pss_cons (ps_set (i := 3) nd rfl (Or.inl rfl) (pe_call G_reached_tables hr_reached_tables rfl T.m_reached_tables T.k_reached_tables T.b_reached_tables .nil pass0 (pa_cons (pv 0) pa_nil)))
      (pss_cons (ps_expr (by exact (pe_call G_good hr_good rfl T.m__check_title T.k__check_title T.b__check_title .nil pass0 (pa_cons (pv 1) (pa_cons (pv 3) pa_nil)))))
      (pss_cons (ps_expr (pe_call G__check_title hr__check_title rfl T.m__check_title T.k__check_title T.b__check_title .nil (L2N.passes_call (L2N.takes_of rfl rfl rfl rfl) (fun _ _ _ _ h => h)) (pa_cons (pv 2) (pa_cons (pv 3) pa_nil))))
      (pss_one ps_never)))), ?_⟩
  refine ⟨_, rfl, x, d, rfl, hd, hz, hb, hs, fun r H1 kvs e1 hr1 tb => ?_⟩
  refine ⟨_, rfl, _, rfl, y, e, r, kvs, _, rfl, dp_same e1 he, tb, ht, ?_⟩
  exact ⟨_, rfl, _, rfl, z, f, r, kvs, _, rfl, dp_same e1 hf, tb, ht2, fun d1 H2 e2 hn2 he2 => k d1 H2 (e1.trans e2) (none_of e1 hn2) he2⟩
theorem ok_ringG (T : Txt K mg) : FnOk P w K mg base CX0 7 T.f_is_ring_call T.d_is_ring_call ["sheets", "caller", "called"] (spRingG K) := by
  have nd := sc_is_ring_call.nd
  refine T.F_is_ring_call.ok sc_is_ring_call (fun vs H Q E h => ?_) (fun cdv A outer s H vs Q E hr h => ?_)
  · obtain ⟨x, t, u, d, rfl, _⟩ := h
    rfl
  obtain ⟨x, t, u, d, rfl, hd, hz, hb, hs, ht, hu, k⟩ := h
  have G_reached_tables : FnOk P w K mg base CX0 6 _ _ _ (spTabG K) := ok_tabG T
  have hr_reached_tables := hr
  have G__check_title : FnOk P w K mg base CX0 1 _ _ _ (spCkG K) := ok_ckG T
  have hr__check_title := hr.mono (j := 1) (by omega)
  refine ⟨_, (pss_cons (ps_set (i := 3) nd rfl (Or.inl rfl) (pe_call G_reached_tables hr_reached_tables rfl T.m_reached_tables T.k_reached_tables T.b_reached_tables .nil pass0 (pa_cons (pv 0) pa_nil)))
      (pss_cons (ps_expr (pe_call G__check_title hr__check_title rfl T.m__check_title T.k__check_title T.b__check_title .nil pass0 (pa_cons (pv 1) (pa_cons (pv 3) pa_nil))))
      (pss_cons (ps_expr (pe_call G__check_title hr__check_title rfl T.m__check_title T.k__check_title T.b__check_title .nil pass0 (pa_cons (pv 2) (pa_cons (pv 3) pa_nil))))
      (pss_one (ps_ret (pe_or (pe_cmpR op_eq (pv 2) (pv 1) (nomark _)) (pe_one (pe_cmp (pc_din (hu1 hr) (pv 1) (pe_dget (hu1 hr) (pv 3) (pv 2) (fun _ _ => rfl))) (by rfl))))))))), ?_⟩
  refine ⟨_, rfl, x, d, rfl, hd, hz, hb, hs, fun r H1 kvs e1 hr1 tb => ?_⟩
  refine ⟨_, rfl, _, rfl, _, .str t, r, kvs, _, rfl, .str t, tb, decide_eq_true ht, ?_⟩
  refine ⟨_, rfl, _, rfl, _, .str u, r, kvs, _, rfl, .str u, tb, decide_eq_true hu, ?_⟩
  obtain ⟨a, ks, y1, _, y2, y3, y4⟩ : ∃ a ks, valV kvs (Sum.inr u) = some (.ref a) ∧ u ∈ (csD d).map (·.1) ∧ H1 a = some (.dK (ckS ks)) ∧ ks.Nodup ∧ ∀ z, z ∈ ks ↔ Rc (csD d) u z := by
    rcases tb.get u with q | ⟨_, q⟩
    · exact q
    · exact absurd hu q
  refine ⟨_, rfl, _, rfl, ?_⟩
  refine ⟨rfl, _, rfl, ?_⟩
  refine ite2 (fun c => ?_) (fun c => ?_)
  · exact k true H1 e1 ⟨fun _ => .inl (V.str.inj (of_decide_eq_true c)).symm, fun _ => rfl⟩
  · have c' : ¬ u = t := fun z => c (decide_eq_true (congrArg V.str z))
    refine ⟨_, rfl, _, rfl, _, rfl, r, .ref a, rfl, .inl ⟨kvs, Sum.inr u, .inl tb.at_, rfl, y1.symm⟩, a, _, rfl, .inl ⟨ckS ks, Sum.inr t, .inl y2, rfl, rfl⟩, ?_⟩
    refine k _ H1 e1 ?_
    rw [ckS_val, ← y4 t]
    by_cases m : t ∈ ks
    · rw [if_pos m]; exact ⟨fun _ => .inr m, fun _ => rfl⟩
    · rw [if_neg m]; exact ⟨fun z => Bool.noConfusion z, fun z => z.elim (fun z => absurd z.symm c') fun z => absurd z m⟩
end
end Lk

set_option Elab.async false
set_option linter.all false
set_option maxRecDepth 100000
set_option maxHeartbeats 4000000
set_option pp.maxSteps 1500
namespace Lk
open PySem PySem.Spec PyProof.Rows L2
/-! ### x in d, d a dict or a tuple of flat items -/
def rInB (K : PySem.W.Frag) : R2 := fun x y H Q => (∃ a o, y = .ref a ∧ DGet H a x o ∧ Q (.bl o.isSome) H) ∨ rIn K false x y H Q
theorem op_inB {X : Cx} (hu : X.A.units + 1 < cLine) : OpR X (compareOp .In) (rInB X.K) := by
  intro pins s σ H x y v u Q I rx ry h
  rcases h with ⟨a, o, rfl, g, q⟩ | h
  · cases ry
    exact d_in hu I g rx fun s' I' => ⟨.bl _, H, I', rfl, q⟩
  · exact op_in_seq pins s σ H x y v u Q I rx ry h
theorem op_inBK {X : Cx} {K : PySem.W.Frag} (e : X.K = K) (hu : X.A.units + 1 < cLine) : OpR X (compareOp .In) (rInB K) := by subst e; exact op_inB hu
noncomputable def ringsD (cs : Cs) : PyData := .tuple ((ringsL cs (srt (cs.map (·.1)))).map fun r => .tuple (r.map .str))
/-- the rings told up to some title -/
noncomputable def ringsUp (cs : Cs) (S T : List Str) : List (List Str) := (T.filter fun t => decide ((ringL cs S t).head? = some t)).map (ringL cs S)
theorem ringsUp_snoc (cs : Cs) (S T : List Str) (t : Str) : ringsUp cs S (T ++ [t]) = ringsUp cs S T ++ (if (ringL cs S t).head? = some t then [ringL cs S t] else []) := by
  unfold ringsUp
  rw [List.filter_append, List.map_append]
  congr 1
  by_cases c : (ringL cs S t).head? = some t
  · rw [if_pos c, List.filter_cons_of_pos (by simp [c])]; rfl
  · rw [if_neg c, List.filter_cons_of_neg (by simp [c])]; rfl
theorem ring_eq {cs : Cs} {t : Str} {ks : List Str} (nd : ks.Nodup) (e : ∀ z, z ∈ ks ↔ Rc cs t z) (nc : (cs.map (·.1)).Nodup) : (srt ks).filter (fun o => rc cs o t) = ringL cs (srt (cs.map (·.1))) t := by
  unfold ringL
  rw [filter_srt, filter_srt]
  refine srt_same (nd.filter _) (nc.filter _) fun z => ?_
  rw [List.mem_filter, List.mem_filter, Bool.and_eq_true, rc_iff, rc_iff, e]
  refine ⟨fun h => ⟨?_, h⟩, fun h => h.2⟩
  obtain ⟨c, h⟩ := h.2.src
  obtain ⟨p, m, rfl, _⟩ := nx_mem h
  exact List.mem_map.mpr ⟨p, m, rfl⟩
def tupsD (rs : List (List Str)) : List PyData := rs.map fun r => .tuple (r.map .str)
def spRingsG (K : PySem.W.Frag) : Sp := fun vs H Q _ => ∃ (x : V) (d : PyData), vs = [x] ∧ Dp K H x d ∧ Sz d ∧ isSheetsD d = true ∧ Small (csD d) ∧ ((csD d).map (·.1)).Nodup ∧
  ∀ (v : V) (H' : Hp), Same H H' → Dp K H' v (ringsD (csD d)) → Q v H'
theorem srt_get_mem {l : List Str} {i : Nat} {z : Str} (h : (srt l)[i]? = some z) : z ∈ l := srt_mem.mp (List.mem_of_getElem? h)
section
variable {P : Program} {w : World} {K : PySem.W.Frag} {mg : Str → Option Value} {base : Heap}
theorem ok_ringsB (T : Txt K mg) : FnOk P w K mg base (L2N.CX P w) 7 T.f_rings_of T.d_rings_of ["sheets"] (spOffB 0 T.C_NotUsable K) := by
  have nd := sc_rings_of.nd
  refine okXN T.F_rings_of sc_rings_of (fun vs H Q E h => ?_) (fun cdv A outer s H vs Q E hr h => ?_)
  · obtain ⟨x, d, r, rfl, e, _⟩ := h
    simp [e]
  obtain ⟨x, d, r, rfl, er, hd, hz, hb, k⟩ := h
  obtain rfl := List.eq_nil_of_length_eq_zero er
  have G_reached_tables : FnOk P w K mg base (L2N.CX P w) 6 _ _ _ (spTabB T.C_NotUsable K) := ok_tabB T
  have hr_reached_tables := hr
  refine ⟨_, (pss_cons (ps_set (i := 1) nd rfl (Or.inr rfl) (pe_call G_reached_tables hr_reached_tables rfl T.m_reached_tables T.k_reached_tables T.b_reached_tables .nil (L2N.passes_call (L2N.takes_of rfl rfl rfl rfl) (fun _ _ _ _ h => h)) (pa_cons (pv 0) pa_nil)))
      (pss_cons ps_never (pss_cons ps_never (pss_one ps_never)))), ?_⟩
  exact ⟨_, rfl, x, d, rfl, hd, hz, hb, k⟩
theorem ok_ringsG (T : Txt K mg) : FnOk P w K mg base CX0 7 T.f_rings_of T.d_rings_of ["sheets"] (spRingsG K) := by
  have nd := sc_rings_of.nd
  refine T.F_rings_of.ok sc_rings_of (fun vs H Q E h => ?_) (fun cdv A outer s H vs Q E hr h => ?_)
  · obtain ⟨x, d, rfl, _⟩ := h
    rfl
  obtain ⟨x, d, rfl, hd, hz, hb, hs, hnc, k⟩ := h
  have G_reached_tables : FnOk P w K mg base CX0 6 _ _ _ (spTabG K) := ok_tabG T
  have hr_reached_tables := hr
  refine ⟨_, (pss_cons (ps_set (i := 1) nd rfl (Or.inr rfl) (pe_call G_reached_tables hr_reached_tables rfl T.m_reached_tables T.k_reached_tables T.b_reached_tables .nil pass0 (pa_cons (pv 0) pa_nil)))
      (pss_cons (ps_set (i := 2) nd rfl (Or.inl rfl) (pe_lst pa_nil))
      (pss_cons (ps_for PassesOwn.never rfl (pi_list (pe_callB (call_sortedD (by rfl)) (by rfl) T.z_sorted (by decide +kernel) (pa_cons (pv 1) pa_nil))) (pg_name (i := 3) nd rfl (Or.inr rfl))
      (pss_cons (ps_set (i := 4) nd rfl (Or.inl rfl) (pe_callTy call_tuple_of (by rfl) T.z_tuple (by decide +kernel) (pa_cons (pe_lc (own := [("other", 5)]) (g := gName 5) (by rfl) nd (pi_list (pe_callB (call_sortedD (by rfl)) (by rfl) T.z_sorted (by decide +kernel) (pa_cons (pe_dget (hu1 hr) (pv 1) (pv 3) (fun _ _ => rfl)) pa_nil))) (blkOk_by (own := [("other", 5)]) (N := sl_rings_of) (sc := defScope s_rings_of) (by decide +kernel)) (fun _ _ _ _ _ => pg_name (i := 5) nd rfl (Or.inl rfl)) (fun _ _ _ _ _ => (pts_one (pt_cmpR (op_inBK (K := K) rfl (hu1 hr)) (pv 3) (pe_dget2 (hu1 hr) (pv 1) (pv 5) (pe_tup pa_nil) ⟨rfl, rfl, rfl, rfl⟩) (by rfl)))) (fun _ _ _ _ _ => (pv 5))) pa_nil)))
      (pss_one (ps_if (PW.pt (pw_and (pt_cmpR op_gt (pe_callB call_len_seq (by rfl) T.z_len PySem.boot_len (pa_cons (pv 4) pa_nil)) pe_int (nomark _)) (pw_and1 (pt_cmpR op_eq (pe_ix ix_tup (pv 4) pe_int (fun _ _ => rfl)) (pv 3) (nomark _))))) (pss_one (ps_expr (pe_bm PySem.F.plainAttrs_list PySem.F.slot_list_append PySem.F.type_list_append mt_append (pv 2) (pa_cons (pv 4) pa_nil)))) pss_nil))))
      (pss_one (ps_ret (pe_callTy call_tuple_of (by rfl) T.z_tuple (by decide +kernel) (pa_cons (pv 2) pa_nil))))))), ?_⟩
  refine ⟨_, rfl, x, d, rfl, hd, hz, hb, hs, fun r H1 kvs e1 hr1 tb => ?_⟩
  refine ⟨(by show 0 ≤ sizeLine; decide), fun g hg => ?_⟩
  generalize csD d = cs at hs hnc k tb
  have sg := same_new hg (.lst [])
  refine ⟨_, rfl, r, kvs, cs.map (·.1), rfl, .inl (sg _ _ tb.at_), ?_, ?_, fun ys p hp hso hn => ?_⟩
  · rw [tb.zr.keys, List.map_map]; rfl
  · rw [List.length_map]; have := hs.2; omega
  rw [srt_eq hp hso]
  clear hp hso
  have hgp : g ≠ p := fun q => by rw [← q, upd_same] at hn; cases hn
  have h1g : H1 g = none := hg
  refine ⟨p, rfl, ⟨_, SqL.of upd_same⟩, ?_⟩
  let S := srt (cs.map (·.1))
  let Pv : Nat → L2.St → Hp → Prop := fun i σ H' => ∃ (o3 o4 o5 : Option V) (vs : List V), σ = [some x, some (.ref r), some (.ref g), o3, o4, o5] ∧ Same H1 H' ∧ H' p = some (.lst (S.map V.str)) ∧ H' g = some (.lst vs) ∧ DpAll K (del H' g) vs (tupsD (ringsUp cs S (S.take i)))
  refine for_list (K := K) (a := p) (xs := S.map V.str) Pv
    ⟨none, none, none, [], rfl, sg.trans (same_new hn _), upd_same, ?_, .nil⟩ ?_ ?_ ?_
  · rw [upd_ne hgp]; exact upd_same
  · rintro i σ H' _ ⟨_, _, _, _, _, _, hpl, _⟩
    exact SqL.of hpl
  · rintro i v σ H' hiv ⟨o3, o4, o5, vs, rfl, e, hpl, hgl, hdv⟩
    rw [List.getElem?_map] at hiv
    obtain ⟨t, hit, rfl⟩ := Option.map_eq_some_iff.mp hiv
    have ht : t ∈ cs.map (·.1) := srt_get_mem hit
    have tb' := tb.same e
    obtain ⟨a, ks, y1, _, y2, y3, y4⟩ : ∃ a ks, valV kvs (Sum.inr t) = some (.ref a) ∧ t ∈ cs.map (·.1) ∧ H' a = some (.dK (ckS ks)) ∧ ks.Nodup ∧ ∀ z, z ∈ ks ↔ Rc cs t z := by
      rcases tb'.get t with q | ⟨_, q⟩
      · exact q
      · exact absurd ht q
    have hk := rc_len hs y3 y4
    refine ⟨_, rfl, _, rfl, r, .ref a, rfl, .inl ⟨kvs, Sum.inr t, .inl tb'.at_, rfl, y1.symm⟩, a, _, ks, rfl, .inl y2, ckS_keys ks, by omega, fun ys q hp hso hq => ?_⟩
    rw [srt_eq hp hso]
    clear hp hso
    have eq1 := same_new hq (.lst ((srt ks).map V.str))
    refine ⟨q, rfl, ⟨_, SqL.of upd_same⟩, fun D hD => ?_⟩
    have hq1 : (upd H' q (.lst ((srt ks).map V.str))) q = some (.lst ((srt ks).map V.str)) := upd_same
    generalize upd H' q (.lst ((srt ks).map V.str)) = H2 at eq1 hq1 hD
    refine lc_list (K := K) (a := q) (xs := (srt ks).map V.str) (fun j H3 => Same H2 H3 ∧ H3 D = some (.lst ((((srt ks).take j).filter fun o => rc cs o t).map V.str))) ?_ ?_ ?_ ?_
    · exact ⟨same_new hD _, upd_same⟩
    · rintro j H3 _ ⟨e3, _⟩
      exact SqL.of (e3 _ _ hq1)
    · rintro j v H3 hjv ⟨e3, hD3⟩
      rw [List.getElem?_map] at hjv
      obtain ⟨o, hjo, rfl⟩ := Option.map_eq_some_iff.mp hjv
      refine ⟨rfl, ?_⟩
      have tb3 := (tb'.same eq1).same e3
      refine ⟨_, rfl, _, rfl, r, rfl, .inl ⟨_, .inl tb3.at_⟩, _, rfl, (by show 0 ≤ sizeLine; decide), fun tp htp => ?_⟩
      have st := same_new htp (.tup [])
      have tb4 := tb3.same st
      have htp4 : (upd H3 tp (.tup [])) tp = some (.tup []) := upd_same
      have hD4 := st _ _ hD3
      generalize upd H3 tp (.tup []) = H4 at st tb4 htp4 hD4 ⊢
      have hlj : j < (srt ks).length := (List.getElem?_eq_some_iff.mp hjo).1
      have hsl : (srt ks).length ≤ 60 := by rw [srt_len]; exact hk
      have fin : ∀ (b : Bool), b = rc cs o t → ∃ c, (V.bl b) = .bl c ∧ (if c = true then tVar 5 (List.set [some x, some (.ref r), some (.ref g), some (.str t), o4, o5] 5 (some (.str o))) H4 fun y H5 => ∃ acc, H5 D = some (.lst acc) ∧ acc.length < sizeLine ∧ (Same H2 (upd H5 D (.lst (acc ++ [y]))) ∧ (upd H5 D (.lst (acc ++ [y]))) D = some (.lst ((((srt ks).take (j + 1)).filter fun o => rc cs o t).map V.str)))
          else Same H2 H4 ∧ H4 D = some (.lst ((((srt ks).take (j + 1)).filter fun o => rc cs o t).map V.str))) := fun b hb => by
        refine ⟨_, rfl, ?_⟩
        subst hb
        refine ite2 (fun c => ?_) (fun c => ?_)
        · refine ⟨_, rfl, _, hD4, ?_, same_mut (e3.trans st) hD, ?_⟩
          · rw [List.length_map]
            refine szl ?_
            have := List.length_filter_le (fun o => rc cs o t) ((srt ks).take j)
            rw [List.length_take] at this
            omega
          · rw [upd_same, List.take_succ, hjo, List.filter_append, List.map_append]
            show some (HO.lst (_ ++ _)) = some (HO.lst (_ ++ (List.filter _ [o]).map V.str))
            rw [List.filter_cons_of_pos (by exact c)]
            rfl
        · refine ⟨e3.trans st, ?_⟩
          rw [hD4, List.take_succ, hjo, List.filter_append, List.map_append]
          show _ = some (HO.lst (_ ++ (List.filter _ [o]).map V.str))
          rw [List.filter_cons_of_neg (by exact c)]
          simp
      rcases tb4.get o with ⟨ao, ko, z1, _, z2, _, z4⟩ | ⟨z1, z2⟩
      · refine ⟨some (.ref ao), .inl ⟨kvs, Sum.inr o, .inl tb4.at_, rfl, z1.symm⟩, .inl ⟨ao, _, rfl, .inl ⟨ckS ko, Sum.inr t, .inl z2, rfl, rfl⟩, fin _ ?_⟩⟩
        rw [ckS_val]
        by_cases m : t ∈ ko
        · rw [if_pos m]; exact (rc_iff.mpr ((z4 t).mp m)).symm
        · rw [if_neg m]
          cases q : rc cs o t with
          | false => rfl
          | true => exact absurd ((z4 t).mpr (rc_iff.mp q)) m
      · refine ⟨none, .inl ⟨kvs, Sum.inr o, .inl tb4.at_, rfl, z1.symm⟩, .inr ⟨tp, [], rfl, .inr (SqT.of htp4), rfl, rfl, fin _ ?_⟩⟩
        cases q : rc cs o t with
        | false => rfl
        | true =>
          obtain ⟨c, h⟩ := (rc_iff.mp q).src
          obtain ⟨pp, m, rfl, _⟩ := nx_mem h
          exact absurd (List.mem_map.mpr ⟨pp, m, rfl⟩) z2
    · rintro H3 ⟨e3, hD3⟩
      rw [List.length_map, List.take_length, ring_eq y3 y4 hnc] at hD3
      refine ⟨D, _, rfl, .inl ⟨SqL.of hD3, fun q2 hq2 => ?_⟩⟩
      have s5 := same_new hq2 (.tup ((ringL cs S t).map V.str))
      have h25 : (upd H3 q2 (.tup ((ringL cs S t).map V.str))) q2 = some (.tup ((ringL cs S t).map V.str)) := upd_same
      have s0 : Same H' H3 := eq1.trans e3
      generalize upd H3 q2 (.tup ((ringL cs S t).map V.str)) = H5 at s5 h25 ⊢
      have s05 := s0.trans s5
      have hup : ringsUp cs S (S.take (i + 1)) = _ := (congrArg (ringsUp cs S) (by rw [List.take_succ, hit]; rfl)).trans (ringsUp_snoc cs S (S.take i) t)
      have hdv5 := dpAll_same (same_del g s05) hdv
      have hlv : vs.length ≤ 60 := by
        rw [dp_len hdv]
        unfold tupsD ringsUp
        rw [List.length_map, List.length_map]
        refine Nat.le_trans (List.length_filter_le _ _) ?_
        rw [List.length_take]
        have h60 := hs.2
        have : S.length = cs.length := by rw [srt_len, List.length_map]
        omega
      have keep : (ringL cs S t).head? ≠ some t → Pv (i + 1) [some x, some (.ref r), some (.ref g), some (.str t), some (.ref q2), o5] H5 := fun hne => ⟨_, _, _, vs, rfl, e.trans s05, s05 _ _ hpl, s05 _ _ hgl, by rw [hup, if_neg hne, List.append_nil]; exact hdv5⟩
      have putg : (ringL cs S t).head? = some t → Pv (i + 1) [some x, some (.ref r), some (.ref g), some (.str t), some (.ref q2), o5] (upd H5 g (.lst (vs ++ [.ref q2]))) := fun he => by
        refine ⟨_, _, _, _, rfl, same_mut (e.trans s05) h1g, ?_, upd_same, ?_⟩
        · rw [upd_ne hgp.symm]; exact s05 _ _ hpl
        · rw [del_upd, hup, if_pos he]
          unfold tupsD at hdv5 ⊢
          rw [List.map_append]
          have hq2g : q2 ≠ g := fun q => by rw [q, s05 _ _ hgl] at h25; cases h25
          exact dpAll_app hdv5 (.tup (SqT.of (by rw [del_ne hq2g]; exact h25)) (dpAll_str _))
      have hgl5 := s05 _ _ hgl
      cases eR : ringL cs S t with
      | nil =>
        rw [eR] at h25 keep
        refine ⟨_, rfl, q2, _, rfl, .inr (SqT.of h25), _, _, rfl, rfl, _, rfl, ifF rfl ?_⟩
        exact iteF (keep (by simp))
      | cons y rr =>
        rw [eR] at h25 keep putg
        refine ⟨_, rfl, q2, _, rfl, .inr (SqT.of h25), _, _, rfl, rfl, _, rfl, ifT (by simp) ?_⟩
        refine ⟨_, rfl, q2, _, _, _, rfl, rfl, SqT.of h25, atI_nat (show ((y :: rr).map V.str)[0]? = some (.str y) from rfl), _, rfl, rfl, _, rfl, ?_⟩
        refine ite2 (fun c => ?_) (fun c => ?_)
        · have hy : y = t := V.str.inj (of_decide_eq_true c)
          refine ⟨_, rfl, .inl ⟨rfl, _, SqL.of hgl5⟩, _, rfl, g, vs, _, rfl, rfl, hgl5, szl (by omega), ?_⟩
          exact putg (by rw [hy]; rfl)
        · exact keep (fun z => c (decide_eq_true (congrArg V.str (Option.some.inj z))))
  · rintro σ H' ⟨o3, o4, o5, vs, rfl, e, hpl, hgl, hdv⟩
    rw [List.length_map, List.take_length] at hdv
    have el : S.take S.length = S := List.take_length
    refine ⟨_, rfl, g, _, rfl, .inl ⟨SqL.of hgl, fun q hq => ?_⟩⟩
    refine k _ _ ((e1.trans e).trans (same_new hq _)) ?_
    have hgq : q ≠ g := fun z => by rw [z, hgl] at hq; cases hq
    refine .tup (SqT.of upd_same) (dpAll_same ((del_le H' g).trans (same_new hq _)) ?_)
    exact hdv
end
end Lk

set_option Elab.async false
set_option linter.all false
set_option maxRecDepth 100000
set_option maxHeartbeats 4000000
set_option pp.maxSteps 1500
namespace Lk
open PySem PySem.Spec PyProof.Rows L2
def fdL (q : Addr) (p b t : Int) : List V := [.ref q, .int p, .int b, .int t]
/-- the feed: its numbers at q, the spot, what is left of a great one, the turn -/
def Feed (K : PySem.W.Frag) (H : Hp) (l q : Addr) (ns : List Int) : Prop := ∃ (p b t : Int), H l = some (.lst (fdL q p b t)) ∧ SqL K (del H l) q (iV ns) ∧ 0 ≤ p ∧ ns.length ≤ 63
def spFeed (K : PySem.W.Frag) : Sp := fun vs H Q _ => ∃ (a : Addr) (ns : List Int), vs = [.ref a] ∧ SqL K H a (iV ns) ∧ ns.length ≤ 63 ∧ ∀ (p : Addr) (H' : Hp), Same H H' → ∀ q ns, H p = none → Feed K H' p q ns → Q (.ref p) H'
def spPick (K : PySem.W.Frag) : Sp := fun vs H Q _ => ∃ (l : Addr) (m : Int) (q : Addr) (ns : List Int), vs = [.ref l, .int m] ∧ Feed K H l q ns ∧ 0 < m ∧ m < 1000000 ∧ ∀ (r : Int) (H' : Hp), 0 ≤ r → r < m → Feed K H' l q ns → Same (del H l) (del H' l) → Q (.int r) H'
theorem iV_at {ns : List Int} {i : Nat} (h : i < ns.length) : (iV ns)[i]? = some (.int (ns.getD i 0)) := by
  unfold iV
  rw [List.getElem?_map, List.getD_eq_getElem?_getD, List.getElem?_eq_getElem h]; rfl
theorem lay_ints : ∀ ns : List Int, PyData.canLayAll0 (ns.map .int) = true
  | [] => rfl
  | n :: r => by
    show (true && PyData.canLayAll0 (r.map .int)) = true
    rw [lay_ints r]; rfl
theorem dep_ints : ∀ ns : List Int, PyData.depthAll (ns.map .int) = 0
  | [] => rfl
  | n :: r => by
    simp only [List.map_cons, PyData.depthAll, PyData.depth, dep_ints r]
    try rfl
theorem shaped_iV (ns : List Int) : SeqAt.shaped (.list (ns.map .int)) = true := by
  unfold SeqAt.shaped
  rw [Bool.and_eq_true_iff]
  refine ⟨lay_ints ns, decide_eq_true ?_⟩
  simp only [PyData.depth, dep_ints]
  omega
theorem fmod_small (x : Int) {c : Int} (h0 : 0 < c) (h1 : c < 2 ^ 64) : -(2 ^ 64) < x.fmod c ∧ x.fmod c < 2 ^ 64 := by
  have a := Int.fmod_nonneg_of_pos x h0
  have b := Int.fmod_lt_of_pos x h0
  omega
theorem next_go {D : Ends} {σ : L2.St} {H : Hp} (h : D.nx σ H) : tNext D σ H := h
theorem seq_mid {t1 t2 : TS} {D : Ends} {σ : L2.St} {H : Hp} (I : L2.St → Hp → Prop) (hI : ∀ σ' H', I σ' H' → t2 D σ' H') (h : ∀ nx : L2.St → Hp → Prop, (∀ σ' H', I σ' H' → nx σ' H') → t1 { D with nx := nx } σ H) : tSeq t1 t2 D σ H := h _ hI
theorem seq_midg {i : Nat} {v : V} {t1 t2 : TS} {D : Ends} {σ : L2.St} {H : Hp} (I : L2.St → Hp → Prop) (hI : ∀ σ' H', I σ' H' → t2 D σ' H') (h : ∀ nx : L2.St → Hp → Prop, (∀ σ' H', I σ' H' → nx σ' H') → t1 { D with nx := nx } (σ.set i (some v)) H) :
    gName i v σ H (tSeq t1 t2 D) := h _ hI
theorem seq_midc {i : Nat} {v : V} {t1 t2 : TS} {D : Ends} {σ : L2.St} {H : Hp} (I : L2.St → Hp → Prop) (hI : ∀ σ' H', I σ' H' → t2 D σ' H') (h : ∀ nx : L2.St → Hp → Prop, (∀ σ' H', I σ' H' → nx σ' H') → t1 { D with nx := nx } (σ.set i (some v)) H) :
    tSeq (tAsg (tC v) (gName i)) (tSeq t1 t2) D σ H := h _ hI
theorem at_st {F : L2.St → Hp → Prop} {σ : L2.St} {H : Hp} (σ' : L2.St) (e : σ = σ') (h : F σ' H) : F σ H := e ▸ h
section
variable {P : Program} {w : World} {K : PySem.W.Frag} {mg : Str → Option Value} {base : Heap}
theorem ok_feed (T : Txt K mg) : FnOk P w K mg base CX0 1 T.f__law_feed T.d__law_feed ["_law_script"] (spFeed K) := by
  have nd := sc__law_feed.nd
  refine T.F__law_feed.ok sc__law_feed (fun vs H Q E h => ?_) (fun cdv A outer s H vs Q E hr h => ?_)
  · obtain ⟨a, ns, rfl, _⟩ := h
    rfl
  obtain ⟨a, ns, rfl, hS, h63, k⟩ := h
  refine ⟨_, (pss_one (ps_ret (pe_lst (pa_cons (pe_lc (own := [("_law_cell", 1)]) (g := gName 1) (tt := tYes) (by rfl) nd (pi_list (pe_slice sl_list (pv 0) po_none (po_some pe_int))) (blkOk_by (own := [("_law_cell", 1)]) (N := sl__law_feed) (sc := defScope s__law_feed) (by decide +kernel)) (fun _ _ _ _ _ => pg_name (i := 1) nd rfl (Or.inl rfl)) (fun _ _ _ _ _ => pts_nil) (fun _ _ _ _ _ => (pe_callTy (T := "int") call_int1 (by rfl) T.z_int (by decide +kernel) (pa_cons (pv 1) pa_nil)))) (pa_cons pe_int (pa_cons pe_int (pa_cons pe_int pa_nil))))))), ?_⟩
  refine ⟨_, rfl, 63, rfl, a, _, rfl, hS, fun sl hsl => ⟨sl, rfl, ⟨_, SqL.of upd_same⟩, fun D hD => ?_⟩⟩
  have hcut : cutV (iV ns) none (some 63) = iV (ns.take 63) := (cut_hi (n := 63)).trans (iV_take ns 63)
  rw [hcut] at hD
  have e2 : Same H (upd H sl (.lst (iV (ns.take 63)))) := same_new hsl _
  have esl : (upd H sl (.lst (iV (ns.take 63)))) sl = some (.lst (iV (ns.take 63))) := upd_same
  rw [hcut]
  generalize upd H sl (.lst (iV (ns.take 63))) = G at *
  generalize hms : ns.take 63 = ms at *
  have lms : ms.length ≤ 63 := by rw [← hms, List.length_take]; omega
  refine lc_it (walk_list (K := K) (a := sl) (xs := iV ms)) (fun i H' => Same G H' ∧ H' D = some (.lst (iV (ms.take i)))) ?_ ?_ ?_ ?_
  · exact ⟨same_new hD _, upd_same⟩
  · rintro i H' _ ⟨e, _⟩
    exact SqL.of (e _ _ esl)
  · rintro i z H1 H2 hi ⟨e, hDl⟩ ⟨rfl, hz⟩
    rw [iV_len] at hi
    rw [iV_at hi] at hz
    cases hz
    refine ⟨rfl, ?_⟩
    refine ⟨_, rfl, .inl ⟨_, rfl, ?_⟩⟩
    refine ⟨_, hDl, (by rw [iV_len, List.length_take]; exact szl (by omega)), same_mut e hD, ?_⟩
    rw [upd_same, List.take_succ, List.getElem?_eq_getElem hi]
    have : iV (ms.take i ++ [ms[i]]) = iV (ms.take i) ++ [V.int (ms.getD i 0)] := by
      rw [List.getD_eq_getElem?_getD, List.getElem?_eq_getElem hi]
      exact List.map_append ..
    rw [← this]; rfl
  · rintro H1 ⟨e, hDl⟩
    rw [iV_len, List.take_length] at hDl
    refine ⟨(by show 4 ≤ sizeLine; decide), fun l hl => ?_⟩
    have hDl2 : l ≠ D := fun z => by rw [z, hDl] at hl; cases hl
    refine k l _ (((e2.trans e).trans (same_new hl _))) D ms (none_of (e2.trans e) hl) ⟨0, 0, 0, upd_same, SqL.of ?_, Int.le_refl _, by omega⟩
    rw [del_ne hDl2.symm, upd_ne hDl2.symm]
    exact hDl
theorem ok_pick (T : Txt K mg) : FnOk P w K mg base CX0 1 T.f__law_pick T.d__law_pick ["_law_feed_here", "_law_wide"] (spPick K) := by
  have nd := sc__law_pick.nd
  refine T.F__law_pick.ok sc__law_pick (fun vs H Q E h => ?_) (fun cdv A outer s H vs Q E hr h => ?_)
  · obtain ⟨l, m, q, ns, rfl, _⟩ := h
    rfl
  obtain ⟨l, m, q, ns, rfl, ⟨p, b, t, hl, hq, hp0, h63⟩, hm, hm1, k⟩ := h
  refine ⟨_, (pss_cons (ps_asg (pe_op op_add (pe_ix ix_list (pv 0) pe_int (fun _ _ => rfl)) pe_int) (pg_sub (pv 0) pe_int set_list))
      (pss_cons (ps_if (pt_cmpR op_gt (pe_ix ix_list (pv 0) pe_int (fun _ _ => rfl)) pe_int (nomark _)) (pss_cons (ps_set (i := 2) nd rfl (Or.inl rfl) (pe_op op_modN (pe_callTy call_int1 (by rfl) T.z_int (by decide +kernel) (pa_cons (pe_ix ix_list (pv 0) pe_int (fun _ _ => rfl)) pa_nil)) (pv 1)))
      (pss_cons (ps_asg (pe_op op_fdivN (pe_callTy call_int1 (by rfl) T.z_int (by decide +kernel) (pa_cons (pe_ix ix_list (pv 0) pe_int (fun _ _ => rfl)) pa_nil)) (pv 1)) (pg_sub (pv 0) pe_int set_list))
      (pss_one (ps_ret (pv 2))))) pss_nil)
      (pss_cons (ps_par (i := 3) (j := 4) rfl nd rfl rfl (by decide) rfl rfl (pa_cons (pe_ix ix_list (pv 0) pe_int (fun _ _ => rfl)) (pa_cons (pe_ix ix_list (pv 0) pe_int (fun _ _ => rfl)) pa_nil)) (by rfl))
      (pss_cons (ps_asg (pe_op op_add (pv 4) pe_int) (pg_sub (pv 0) pe_int set_list))
      (pss_cons (ps_set (i := 5) nd rfl (Or.inl rfl) pe_int)
      (pss_cons (ps_if (pt_cmpR (op_neD hr.units) (pv 3) (pe_lst pa_nil) (nomark _)) (pss_one (ps_set (i := 5) nd rfl (Or.inl rfl) (pe_ix ix_list (pv 3) (pe_op op_modN (pe_callTy call_int1 (by rfl) T.z_int (by decide +kernel) (pa_cons (pv 4) pa_nil)) (pe_callB call_len_seq (by rfl) T.z_len PySem.boot_len (pa_cons (pv 3) pa_nil))) (fun _ _ => rfl)))) pss_nil)
      (pss_cons (ps_if (PW.pt (pw_and (pt_cmpR op_ge (pe_callB call_abs (by rfl) T.z_abs (by decide +kernel) (pa_cons (pv 5) pa_nil)) (pe_op op_pow pe_int pe_int) (nomark _)) (pw_and1 (pt_cmpR op_lt (pv 4) (pe_callB call_len_seq (by rfl) T.z_len PySem.boot_len (pa_cons (pv 3) pa_nil)) (nomark _))))) (pss_cons (ps_asg (pe_op op_fdivN (pe_callB call_abs (by rfl) T.z_abs (by decide +kernel) (pa_cons (pv 5) pa_nil)) (pv 1)) (pg_sub (pv 0) pe_int set_list))
      (pss_one (ps_ret (pe_op op_modN (pe_callTy call_int1 (by rfl) T.z_int (by decide +kernel) (pa_cons (pe_callB call_abs (by rfl) T.z_abs (by decide +kernel) (pa_cons (pv 5) pa_nil)) pa_nil)) (pv 1))))) pss_nil)
      (pss_cons (ps_set (i := 6) nd rfl (Or.inl rfl) (pe_op op_modN (pe_callTy call_int1 (by rfl) T.z_int (by decide +kernel) (pa_cons (pe_op op_add (pe_op op_add (pe_op op_mul (pe_op op_modN (pe_callTy call_int1 (by rfl) T.z_int (by decide +kernel) (pa_cons (pv 5) pa_nil)) pe_int) pe_int) (pe_op op_mul (pe_ix ix_list (pv 0) pe_int (fun _ _ => rfl)) pe_int)) pe_int) pa_nil)) pe_int))
      (pss_cons (ps_set (i := 6) nd rfl (Or.inl rfl) (pe_op op_modN (pe_callTy call_int1 (by rfl) T.z_int (by decide +kernel) (pa_cons (pe_op op_add (pe_op op_add (pe_op op_mul (pv 6) (pv 6)) (pe_op op_mul (pe_ix ix_list (pv 0) pe_int (fun _ _ => rfl)) pe_int)) pe_int) pa_nil)) pe_int))
      (pss_one (ps_ret (pe_op op_modN (pe_callTy call_int1 (by rfl) T.z_int (by decide +kernel) (pa_cons (pe_op op_fdivN (pe_op op_modN (pe_callTy call_int1 (by rfl) T.z_int (by decide +kernel) (pa_cons (pe_op op_add (pe_op op_mul (pv 6) (pv 6)) (pe_op op_mul pe_int (pv 6))) pa_nil)) pe_int) pe_int) pa_nil)) (pv 1))))))))))))), ?_⟩
  have g3 : ∀ {p b t : Int}, atI (fdL q p b t) 3 = some (.int t) := rfl
  have g2 : ∀ {p b t : Int}, atI (fdL q p b t) 2 = some (.int b) := rfl
  have g1 : ∀ {p b t : Int}, atI (fdL q p b t) 1 = some (.int p) := rfl
  have g0 : ∀ {p b t : Int}, atI (fdL q p b t) 0 = some (.ref q) := rfl
  refine ⟨_, rfl, l, _, _, _, rfl, rfl, SqL.of hl, g3, _, _, rfl, rfl, _, rfl, l, _, _, 3, rfl, rfl, hl, rfl, ?_⟩
  rw [show (fdL q p b t).set 3 (.int (t + 1)) = fdL q p b (t + 1) from rfl]
  have kq : ∀ {H2 : Hp} {o : HO}, Same (del H l) (del H2 l) → Same (del H l) (del (upd H2 l o) l) := fun {H2 o} e => by rw [del_upd]; exact e
  have e1 : Same (del H l) (del (upd H l (.lst (fdL q p b (t + 1)))) l) := kq (Same.refl _)
  have hl1 : (upd H l (.lst (fdL q p b (t + 1)))) l = some (.lst (fdL q p b (t + 1))) := upd_same
  generalize upd H l (.lst (fdL q p b (t + 1))) = H1 at e1 hl1 ⊢
  have fin : ∀ (r : Int) (H2 : Hp) (p b t : Int), H2 l = some (.lst (fdL q p b t)) → 0 ≤ p → Same (del H l) (del H2 l) → 0 ≤ r → r < m → Q (.int r) H2 := fun r H2 p b t h2 hp e r0 r1 => k r H2 r0 r1 ⟨p, b, t, h2, e.seq hq, hp, h63⟩ e
  refine ⟨_, rfl, l, _, _, _, rfl, rfl, SqL.of hl1, g2, _, _, rfl, rfl, _, rfl, ?_⟩
  refine ite2 (fun c1 => ?_) (fun c1 => ?_)
  · refine ⟨_, rfl, l, _, _, _, rfl, rfl, SqL.of hl1, g2, .inl ⟨_, rfl, _, rfl, _, _, rfl, rfl, (by show m ≠ 0; omega), ?_⟩⟩
    have c1' : 0 < b := of_decide_eq_true c1
    refine ⟨_, rfl, l, _, _, _, rfl, rfl, SqL.of hl1, g2, .inl ⟨_, rfl, _, rfl, _, _, rfl, rfl, ⟨by omega, by omega⟩, _, rfl, l, _, _, 2, rfl, rfl, hl1, rfl, ?_⟩⟩
    exact ⟨_, rfl, fin _ _ p (b.fdiv m) (t + 1) upd_same hp0 (kq e1) (Int.fmod_nonneg_of_pos _ hm) (Int.fmod_lt_of_pos _ hm)⟩
  · refine next_go ?_
    have hq1 : SqL K H1 q (iV ns) := (del_le H1 l).seq (e1.seq hq)
    refine ⟨_, rfl, l, _, _, _, rfl, rfl, SqL.of hl1, g0, _, rfl, l, _, _, _, rfl, rfl, SqL.of hl1, g1, _, _, rfl, ?_⟩
    refine ⟨_, rfl, _, _, rfl, rfl, _, rfl, l, _, _, 1, rfl, rfl, hl1, rfl, ?_⟩
    rw [show (fdL q p b (t + 1)).set 1 (.int (p + 1)) = fdL q (p + 1) b (t + 1) from rfl]
    have e2 := kq (o := .lst (fdL q (p + 1) b (t + 1))) e1
    have hl2 : (upd H1 l (.lst (fdL q (p + 1) b (t + 1)))) l = some (.lst (fdL q (p + 1) b (t + 1))) := upd_same
    generalize upd H1 l (.lst (fdL q (p + 1) b (t + 1))) = H2 at e2 hl2 ⊢
    have hq2 : SqL K H2 q (iV ns) := (del_le H2 l).seq (e2.seq hq)
    dsimp only
    refine seq_midc (t1 := tIfS _ _ _) (fun σ' H' => ∃ c : Int, σ' = [some (.ref l), some (.int m), none, some (.ref q), some (.int p), some (.int c), none] ∧ H' l = some (.lst (fdL q (p + 1) b (t + 1))) ∧ Same (del H l) (del H' l)) ?_ ?_
    · rintro σ' H3 ⟨c, rfl, hl3, e3⟩
      have hq3 : SqL K H3 q (iV ns) := (del_le H3 l).seq (e3.seq hq)
      clear hl hl1 hl2 e1 e2 hq1 hq2
      refine seq_mid (t1 := tIfS _ _ _) (fun σ' H' => σ' = [some (.ref l), some (.int m), none, some (.ref q), some (.int p), some (.int c), none] ∧ H' = H3) ?_ ?_
      · rintro σ' H' ⟨rfl, rfl⟩
        refine ⟨_, rfl, .inl ⟨_, rfl, _, _, rfl, rfl, (by show (1999957 : Int) ≠ 0; decide), _, _, rfl, rfl, .inr ⟨by decide, by decide⟩, _, rfl, l, _, _, _, rfl, rfl, SqL.of hl3, g3, _, _, rfl, rfl, .inr ⟨by decide, by decide⟩, _, _, rfl, rfl, _, _, rfl, rfl, .inl ⟨_, rfl, _, _, rfl, rfl, (by show (2000081 : Int) ≠ 0; decide), ?_⟩⟩⟩
        refine ⟨_, rfl, _, rfl, _, _, rfl, rfl, .inr (fmod_small _ (by decide) (by decide)), _, rfl, l, _, _, _, rfl, rfl, SqL.of hl3, g3, _, _, rfl, rfl, .inr ⟨by decide, by decide⟩, _, _, rfl, rfl, _, _, rfl, rfl, .inl ⟨_, rfl, _, _, rfl, rfl, (by show (2147483563 : Int) ≠ 0; decide), ?_⟩⟩
        exact ⟨_, rfl, _, rfl, _, _, rfl, rfl, .inr (fmod_small _ (by decide) (by decide)), _, rfl, _, _, rfl, rfl, .inl ⟨by decide, by decide⟩, _, _, rfl, rfl, .inl ⟨_, rfl, _, _, rfl, rfl, (by show (2147483549 : Int) ≠ 0; decide), _, _, rfl, rfl, ⟨by decide, by decide⟩, .inl ⟨_, rfl, _, rfl, _, _, rfl, rfl, (by show m ≠ 0; omega), fin _ _ _ _ _ hl3 (by omega) e3 (Int.fmod_nonneg_of_pos _ hm) (Int.fmod_lt_of_pos _ hm)⟩⟩⟩
      intro nx2 hnx2
      refine ⟨_, rfl, _, rfl, _, _, rfl, rfl, ⟨by decide, by decide, by decide⟩, _, _, rfl, rfl, _, rfl, ?_⟩
      refine ite2 (fun c2 => ?_) (fun c2 => ?_)
      · refine ⟨_, rfl, _, rfl, q, _, rfl, .inl hq3, _, _, rfl, rfl, _, rfl, ?_⟩
        refine ite2 (fun c3 => ?_) (fun c3 => ?_)
        · refine ⟨_, rfl, _, rfl, _, rfl, _, _, rfl, rfl, ⟨by omega, by omega⟩, _, rfl, l, _, _, 2, rfl, rfl, hl3, rfl, ?_⟩
          exact ⟨_, rfl, _, rfl, .inl ⟨_, rfl, _, rfl, _, _, rfl, rfl, (by show m ≠ 0; omega), fin _ _ (p + 1) (Int.fdiv (if c < 0 then -c else c) m) (t + 1) upd_same (by omega) (kq e3) (Int.fmod_nonneg_of_pos _ hm) (Int.fmod_lt_of_pos _ hm)⟩⟩
        · exact next_go (hnx2 _ _ ⟨rfl, rfl⟩)
      · exact next_go (hnx2 _ _ ⟨rfl, rfl⟩)
    · intro nx hnx
      refine ⟨_, rfl, (by show 0 ≤ sizeLine; decide), fun pe hpe => ?_⟩
      have s3 : Same H2 (upd H2 pe (.lst [])) := same_new hpe _
      refine ⟨.list (ns.map .int), .list [], .lst (s3.seq hq2) (dp_ints ns), .lst (SqL.of upd_same) .nil, shaped_iV ns, rfl, _, rfl, ?_⟩
      have hl3 := s3 _ _ hl2
      have e23 := e2.trans (same_del l s3)
      have hq3 := s3.seq hq2
      generalize upd H2 pe (.lst []) = H3 at s3 hl3 e23 hq3 ⊢
      cases ns with
      | nil =>
        refine iteF ?_
        exact next_go (hnx _ _ ⟨_, rfl, hl3, e23⟩)
      | cons n0 nr =>
        refine iteT ?_
        have lpos : (0 : Int) < ((iV (n0 :: nr)).length : Int) := by rw [iV_len]; simp only [List.length_cons]; omega
        have f0 := Int.fmod_nonneg_of_pos p lpos
        have f1 := Int.fmod_lt_of_pos p lpos
        have at3 : atI (iV (n0 :: nr)) (p.fmod ((iV (n0 :: nr)).length : Int)) = some (.int ((n0 :: nr).getD (p.fmod ((iV (n0 :: nr)).length : Int)).toNat 0)) := by
          obtain ⟨x, hx⟩ := Int.eq_ofNat_of_zero_le f0
          rw [hx]
          exact atI_nat (iV_at (by rw [iV_len] at f1 hx; omega))
        refine ⟨_, rfl, _, rfl, .inl ⟨_, rfl, _, rfl, q, _, rfl, .inl hq3, _, _, rfl, rfl, (by show ((iV (n0 :: nr)).length : Int) ≠ 0; omega), q, _, _, _, rfl, rfl, hq3, at3, ?_⟩⟩
        exact hnx _ _ ⟨_, rfl, hl3, e23⟩
end
end Lk

set_option Elab.async false
set_option linter.all false
set_option maxRecDepth 100000
set_option maxHeartbeats 4000000
namespace Lk
open PySem PySem.Spec PyProof.Rows L2
/-! ### sorted(xs), xs a list of tuples of texts, by their first texts -/
def TupS (K : PySem.W.Frag) (H : Hp) (x : V) (ns : List Str) : Prop := ∃ t, x = .ref t ∧ SqT K H t (ns.map V.str) ∧ ns ≠ []
def allStr : Nat → Bool := fun _ => true
theorem items_strs : ∀ {us : List Value} {ns : List Str}, StrsAre us ns → ∀ i, tupItems allStr i us = some (ns.map fun z => Sum.inr z.cps.toList)
  | _, _, .nil, _ => rfl
  | _, _, .cons x t r, i => by
    show (if allStr i = true then (tupItems allStr (i + 1) _).map (Sum.inr x.cps.toList :: ·) else none) = _
    rw [if_pos (show allStr i = true from rfl), items_strs r (i + 1)]
    rfl
section
variable {X : Cx} {pins : List (Addr × Obj)} {σ : L2.St} {H : Hp} {s : Shared}
theorem tupS_key (I : Inv X pins σ H s) {t : Addr} {ns : List Str} (h : SqT X.K H t (ns.map V.str)) : G.tupKeyC s.heap allStr (.ref t) = some (ns.map fun z => Sum.inr z.cps.toList) := by
  obtain ⟨its, rv, ⟨o, ho, hc, n, hd⟩, _⟩ := I.tuple h
  have e1 : G.isTupObj s.heap (.ref t) = true := by
    simp only [G.isTupObj, ho, hc]
    rfl
  unfold G.tupKeyC
  rw [if_pos e1]
  simp only [tupKey, ho, hd]
  exact items_strs rv.strs 0
theorem tupS_of (I : Inv X pins σ H s) {t : Addr} {ns : List Str} (h : SqT X.K H t (ns.map V.str)) (ne : ns ≠ []) : ∃ f, TupOf s.heap allStr (.ref t) f := by
  obtain ⟨its, rv, ⟨o, ho, hc, n, hd⟩, _⟩ := I.tuple h
  have hs := rv.strs
  cases hs with
  | nil => exact absurd rfl ne
  | cons x tk r => exact ⟨_, t, o, _, n, rfl, ho, hc, hd, rfl, (fun z => nomatch z), fun _ => ⟨x, tk, rfl⟩⟩
theorem tups_all {h : Heap} : ∀ {us : List Value}, (∀ u ∈ us, ∃ f, TupOf h allStr u f) → ∃ fs, TupsOf h allStr us fs
  | [], _ => ⟨[], .nil⟩
  | u :: us, z => by
    obtain ⟨f, hf⟩ := z u List.mem_cons_self
    obtain ⟨fs, hfs⟩ := tups_all fun v m => z v (List.mem_cons_of_mem _ m)
    exact ⟨f :: fs, .cons hf hfs⟩
def rSortTS (K : PySem.W.Frag) : List V → Hp → VK → Prop := fun vs H Q => ∃ (a : Addr) (xs : List V), vs = [V.ref a] ∧ SqL K H a xs ∧ (∀ x ∈ xs, ∃ ns, TupS K H x ns) ∧
  ∀ (ys : List V) (p : Addr), ys.Perm xs → ys.Pairwise (fun x y => ∀ n m, TupS K H x n → TupS K H y m → leS (n.headD "") (m.headD "") = true) → H p = none → Q (.ref p) (upd H p (.lst ys))
theorem cr_sortTS : CallR X (.builtin "sorted") (rSortTS X.K) := by
  intro pins s σ H vs us Q I r h
  obtain ⟨a, xs, rfl, hs, hx, q⟩ := h
  obtain ⟨its, rv, hl, hz⟩ := I.list hs
  rw [Vals.ref1 r]
  obtain ⟨e1, e2⟩ := bkV_refs rv fun x m => by
    obtain ⟨ns, t, e, _⟩ := hx x m
    exact ⟨t, e⟩
  have ex : ∀ u ∈ its, ∃ t ns, u = .ref t ∧ SqT X.K H t (ns.map V.str) ∧ ns ≠ [] := fun u hu => by
    obtain ⟨t, rfl⟩ := e2 u hu
    have hm : V.ref t ∈ xs := by
      rw [e1]
      exact List.mem_map.mpr ⟨_, hu, rfl⟩
    obtain ⟨ns, t', e, ht, hn⟩ := hx _ hm
    cases e
    exact ⟨t, ns, rfl, ht, hn⟩
  obtain ⟨fs, hfs⟩ := tups_all (h := s.heap) (us := its) fun u hu => by
    obtain ⟨t, ns, rfl, ht, hn⟩ := ex u hu
    exact tupS_of I ht hn
  have hk : ∀ v, v ∈ its → ∃ l, G.tupKeyC s.heap allStr v = some l := fun v hv => by
    obtain ⟨t, ns, rfl, ht, hn⟩ := ex v hv
    exact ⟨_, tupS_key I ht⟩
  refine G.sorted_tups hl.isList hfs hk (by rw [← rv.length]; exact hz) fun st' hp hso hst => ?_
  have hpl : (arrOf st').toList.Perm (its.zip its) := by rw [← pairsOf_toList]; exact Array.perm_iff_toList_perm.mp hp
  have hmem : ∀ p, p ∈ (arrOf st').toList → p.1 = p.2 ∧ p.1 ∈ its := fun p hp' => mem_zip_self (hpl.mem_iff.mp hp')
  have h1 : ((arrOf st').map (·.2)).toList.Perm its := by
    rw [Array.toList_map]
    have z := hpl.map Prod.snd
    rw [List.map_snd_zip (Nat.le_refl _)] at z
    exact z
  obtain ⟨ep, he'⟩ := PyProof.Rows.sortedAll_at s.heap its ((arrOf st').map (·.2))
  have h3 : ∀ u ∈ ((arrOf st').map (·.2)).toList, ∃ a, u = Value.ref a := fun u hu => e2 u (h1.mem_iff.mp hu)
  have hpx : (((arrOf st').map (·.2)).toList.map bkV).Perm xs := by
    rw [e1]
    exact h1.map bkV
  have hlen : (((arrOf st').map (·.2)).toList.map bkV).length ≤ sizeLine := by
    rw [hpx.length_eq]
    exact hz
  refine ⟨.ref _, upd H (s.heap.objs.size + 1) (.lst (((arrOf st').map (·.2)).toList.map bkV)), I.laid (t' := s.toks) (fun _ _ => PyProof.Rows.sortedAll_old) (Nat.le_succ _) ⟨hlen, ((arrOf st').map (·.2)).toList, ep, bkV_vals h3, he'⟩, rfl, q _ _ hpx ?_ (I.hok.fresh (Nat.le_succ _))⟩
  rw [List.pairwise_map, List.pairwise_iff_getElem]
  intro i j hi hj hij n m hn hm
  have hi' : i < (arrOf st').size := by simpa using hi
  have hj' : j < (arrOf st').size := by simpa using hj
  have h4 := hso i j (Nat.le_of_lt hij) (by rw [← hp.size_eq]; exact hj')
  obtain ⟨t, et, ht, hne⟩ := hn
  obtain ⟨t', et', ht', hne'⟩ := hm
  have eu := bkV_ref et
  have ev := bkV_ref et'
  have g1 : ∀ (k : Nat) (hk : k < (arrOf st').size), (arrOf st')[k].1 = ((arrOf st').map (·.2)).toList[k]'(by simpa using hk) := fun k hk => by
    rw [Array.getElem_toList, Array.getElem_map]
    exact (hmem (arrOf st')[k] (by simp)).1
  have k1 : KK (G.tupKindC s.heap allStr) (arrOf st') i = n.map fun z => Sum.inr z.cps.toList := by
    unfold KK
    rw [getElem?_pos (arrOf st') i hi']
    show (G.tupKeyC s.heap allStr (arrOf st')[i].1).getD [] = _
    rw [(g1 i hi').trans eu, tupS_key I ht]
    rfl
  have k2 : KK (G.tupKindC s.heap allStr) (arrOf st') j = m.map fun z => Sum.inr z.cps.toList := by
    unfold KK
    rw [getElem?_pos (arrOf st') j hj']
    show (G.tupKeyC s.heap allStr (arrOf st')[j].1).getD [] = _
    rw [(g1 j hj').trans ev, tupS_key I ht']
    rfl
  rw [k1, k2] at h4
  cases n with
  | nil => exact absurd rfl hne
  | cons x n =>
    cases m with
    | nil => exact absurd rfl hne'
    | cons y m =>
      have h5 := (lex_false.mp (show lexLt itemOrd (Sum.inr y.cps.toList :: m.map fun z => Sum.inr z.cps.toList) (Sum.inr x.cps.toList :: n.map fun z => Sum.inr z.cps.toList) = false from h4)).1
      show leS x y = true
      unfold leS
      rw [ltCps_eq]
      have h6 : decide (y.cps.toList < x.cps.toList) = false := h5
      rw [h6]; rfl
end
end Lk

set_option Elab.async false
set_option linter.all false
set_option maxRecDepth 100000
set_option maxHeartbeats 4000000
namespace Lk
open PySem PySem.Spec PyProof.Rows L2
/-! ### drawn sheets -/
def menuL : List Str := ["main", "a", "zz", "b2", "nine", "odd", "m", "even4", "k9", "ab", "z", "leafleafleaf"]
def namesL : List Str := menuL ++ (["ghost", "aa", "x"] : List Str)
def menuAt (b k : Nat) : Str := menuL.getD ((b + 5 * k) % 12) ""
def ttlsOf (b m : Nat) : List Str := (List.range m).map (menuAt b)
def ghostsOf (b m : Nat) : List Str := ["ghost", "aa", if m < 12 then menuAt b m else "x"]
theorem names_all : ∀ z ∈ namesL, titleB z = true ∧ (reprText z).length ≤ 20 ∧ z.length ≤ 1000 := by decide +kernel
theorem ttls_all : ∀ b ∈ List.range 12, ∀ m ∈ List.range 13, (ttlsOf b m).Nodup ∧ (∀ z ∈ ttlsOf b m, z ∈ namesL) ∧ (∀ z ∈ ghostsOf b m, z ∈ namesL ∧ z ∉ ttlsOf b m) := by decide +kernel
abbrev Rw := Str × Int × List (Str × Int)
def callD (c : Str × Int) : PyData := .tuple [.str c.1, .int c.2]
def rowD (r : Rw) : PyData := .tuple [.str r.1, .int r.2.1, .tuple (r.2.2.map callD)]
def csOf (rs : List Rw) : Cs := rs.map fun r => (r.1, r.2.2.map (·.1))
def rowsD (rs : List Rw) : PyData := .tuple (rs.map rowD)
structure RowOk (ts gs : List Str) (r : Rw) : Prop where
  n : 0 ≤ r.2.1
  len : r.2.2.length ≤ 3
  cl : ∀ c ∈ r.2.2, 0 ≤ c.2 ∧ (c.1 ∈ ts ∨ c.1 ∈ gs)
structure DrR (rs : List Rw) (ts gs : List Str) : Prop where
  ttl : rs.map (·.1) = ts
  nd : ts.Nodup
  tn : ∀ z ∈ ts, z ∈ namesL
  gn : ∀ z ∈ gs, z ∈ namesL ∧ z ∉ ts
  gl : gs.length = 3
  len : ts.length ≤ 12
  row : ∀ r ∈ rs, RowOk ts gs r
theorem isN_nat {i : Int} (h : 0 ≤ i) : isN (.int i) = true := decide_eq_true h
section
variable {rs : List Rw} {ts gs : List Str}
theorem DrR.name (d : DrR rs ts gs) {z : Str} (h : z ∈ ts ∨ z ∈ gs) : z ∈ namesL := h.elim (d.tn z) fun h => (d.gn z h).1
theorem DrR.rl (d : DrR rs ts gs) : rs.length = ts.length := by rw [← d.ttl, List.length_map]
theorem DrR.rt (d : DrR rs ts gs) {r : Rw} (h : r ∈ rs) : r.1 ∈ ts := by rw [← d.ttl]; exact List.mem_map.mpr ⟨r, h, rfl⟩
theorem callD_ok (d : DrR rs ts gs) {c : Str × Int} (h : 0 ≤ c.2 ∧ (c.1 ∈ ts ∨ c.1 ∈ gs)) : isCallD (callD c) = true := by
  show (titleB c.1 && isN (.int c.2)) = true
  rw [(names_all _ (d.name h.2)).1, isN_nat h.1]; rfl
theorem rowD_ok (d : DrR rs ts gs) {r : Rw} (h : r ∈ rs) : isSheetD (rowD r) = true := by
  show (titleB r.1 && (isN (.int r.2.1) && (r.2.2.map callD).all isCallD)) = true
  rw [(names_all _ (d.tn _ (d.rt h))).1, isN_nat (d.row r h).n, List.all_map, Bool.true_and, Bool.true_and]
  exact List.all_eq_true.mpr fun c m => callD_ok d ((d.row r h).cl c m)
theorem DrR.sheets (d : DrR rs ts gs) : isSheetsD (rowsD rs) = true := by
  show ((rs.map rowD).all isSheetD && decide ((rs.map rowD).map ttlD).Nodup) = true
  have e : (rs.map rowD).map ttlD = ts := by rw [List.map_map]; exact d.ttl
  rw [e, decide_eq_true d.nd, Bool.and_true, List.all_map]
  exact List.all_eq_true.mpr fun r m => rowD_ok d m
theorem cs_rows (rs : List Rw) : csD (rowsD rs) = csOf rs := by
  show (rs.map rowD).map _ = _
  rw [List.map_map]
  refine List.map_congr_left fun r _ => ?_
  show (r.1, (r.2.2.map callD).map ttlD) = (r.1, r.2.2.map (·.1))
  rw [List.map_map]; rfl
theorem cs_ttl (rs : List Rw) : (csOf rs).map (·.1) = rs.map (·.1) := by unfold csOf; rw [List.map_map]; rfl
theorem flat_le : ∀ {l : List Rw}, (∀ r ∈ l, r.2.2.length ≤ 3) → (flatC (csOf l)).length ≤ 3 * l.length
  | [], _ => Nat.le_refl _
  | r :: l, h => by
    have ih := flat_le (l := l) fun x m => h x (List.mem_cons_of_mem _ m)
    have h1 := h r List.mem_cons_self
    show ((r.2.2.map (·.1)) ++ flatC (csOf l)).length ≤ 3 * (l.length + 1)
    rw [List.length_append, List.length_map]
    omega
theorem DrR.small (d : DrR rs ts gs) : Small (csOf rs) := by
  have h1 := flat_le fun r m => (d.row r m).len
  have h2 := d.rl
  have h3 := d.len
  refine ⟨by omega, ?_⟩
  unfold csOf
  rw [List.length_map]; omega
theorem DrR.sz (d : DrR rs ts gs) : Sz (rowsD rs) := by
  have h2 := d.rl
  have h3 := d.len
  refine .tup _ (by rw [List.length_map]; omega) fun x m => ?_
  obtain ⟨r, mr, rfl⟩ := List.mem_map.mp m
  have ro := d.row r mr
  refine .tup _ (by show 3 ≤ 1000; decide) fun y my => ?_
  rcases List.mem_cons.mp my with rfl | my
  · exact .str _ (names_all _ (d.tn _ (d.rt mr))).2.2
  rcases List.mem_cons.mp my with rfl | my
  · exact .int _
  rcases List.mem_cons.mp my with rfl | my
  · refine .tup _ (by rw [List.length_map]; have := ro.len; omega) fun z mz => ?_
    obtain ⟨c, mc, rfl⟩ := List.mem_map.mp mz
    refine .tup _ (by show 2 ≤ 1000; decide) fun u mu => ?_
    rcases List.mem_cons.mp mu with rfl | mu
    · exact .str _ (names_all _ (d.name (ro.cl c mc).2)).2.2
    rcases List.mem_cons.mp mu with rfl | mu
    · exact .int _
    · cases mu
  · cases my
theorem DrR.rev (d : DrR rs ts gs) : DrR rs.reverse ts.reverse gs :=
  ⟨by rw [List.map_reverse, d.ttl], (List.reverse_perm ts).nodup_iff.mpr d.nd, fun z m => d.tn z (List.mem_reverse.mp m), fun z m => ⟨(d.gn z m).1, fun q => (d.gn z m).2 (List.mem_reverse.mp q)⟩, d.gl, by rw [List.length_reverse]; exact d.len,
    fun r m => have ro := d.row r (List.mem_reverse.mp m); ⟨ro.n, ro.len, fun c mc => ⟨(ro.cl c mc).1, (ro.cl c mc).2.imp (fun q => List.mem_reverse.mpr q) id⟩⟩⟩
end
theorem noLs_map {α : Type} {f : α → PyData} (h : ∀ x, noL (f x) = true) : ∀ l : List α, noLs (l.map f) = true
  | [] => rfl
  | x :: l => by
    show (noL (f x) && noLs (l.map f)) = true
    rw [h x, noLs_map h l]; rfl
theorem noL_call (c : Str × Int) : noL (callD c) = true := rfl
theorem noL_row (r : Rw) : noL (rowD r) = true := by
  show (true && (true && (noLs (r.2.2.map callD) && true))) = true
  rw [noLs_map noL_call]; rfl
theorem noL_rows (rs : List Rw) : noL (rowsD rs) = true := noLs_map noL_row rs
/-! ### reach does not hang on the order -/
theorem nx_of_mem : ∀ {cs : Cs} {c : Str × List Str}, (cs.map (·.1)).Nodup → c ∈ cs → nx cs c.1 = c.2
  | x :: cs, c, nd, m => by
    obtain ⟨h1, h2⟩ := List.nodup_cons.mp (show (x.1 :: cs.map (·.1)).Nodup from nd)
    rcases List.mem_cons.mp m with rfl | m
    · exact nx_find (List.find?_cons_of_pos (by simp))
    · have hne : x.1 ≠ c.1 := fun e => h1 (by rw [e]; exact List.mem_map.mpr ⟨c, m, rfl⟩)
      have ih := nx_of_mem h2 m
      unfold nx at ih ⊢
      rw [List.find?_cons_of_neg (by simp [hne])]
      exact ih
theorem nx_no {cs : Cs} {t : Str} (h : t ∉ cs.map (·.1)) : nx cs t = [] := nx_nofind (find_no h)
theorem nx_perm {cs ds : Cs} (p : cs.Perm ds) (nd : (cs.map (·.1)).Nodup) (t : Str) : nx cs t = nx ds t := by
  have nd2 : (ds.map (·.1)).Nodup := (p.map _).nodup_iff.mp nd
  by_cases h : t ∈ cs.map (·.1)
  · obtain ⟨c, m, rfl⟩ := List.mem_map.mp h
    rw [nx_of_mem nd m, nx_of_mem nd2 (p.mem_iff.mp m)]
  · rw [nx_no h, nx_no fun q => h ((p.map _).mem_iff.mpr q)]
theorem rc_nx {cs ds : Cs} (h : ∀ t, nx cs t = nx ds t) {a b : Str} (r : Rc cs a b) : Rc ds a b := by
  induction r with
  | one m => exact .one (by rw [← h]; exact m)
  | snoc _ m ih => exact .snoc ih (by rw [← h]; exact m)
theorem rc_perm {cs ds : Cs} (p : cs.Perm ds) (nd : (cs.map (·.1)).Nodup) (a b : Str) : Rc cs a b ↔ Rc ds a b := ⟨rc_nx (nx_perm p nd), rc_nx fun t => (nx_perm p nd t).symm⟩
theorem srt_of_perm {l m : List Str} (p : l.Perm m) (h : l.Nodup) : srt l = srt m := srt_same h (p.nodup_iff.mp h) fun _ => p.mem_iff
theorem rings_perm {cs ds : Cs} (p : cs.Perm ds) (nd : (cs.map (·.1)).Nodup) : ringsD cs = ringsD ds := by
  have e : srt (cs.map (·.1)) = srt (ds.map (·.1)) := srt_of_perm (p.map _) nd
  have e2 : ∀ S t, ringL cs S t = ringL ds S t := fun S t => by
    unfold ringL
    refine List.filter_congr fun o _ => ?_
    have h1 : rc cs t o = rc ds t o := Bool.eq_iff_iff.mpr (by rw [rc_iff, rc_iff]; exact rc_perm p nd t o)
    have h2 : rc cs o t = rc ds o t := Bool.eq_iff_iff.mpr (by rw [rc_iff, rc_iff]; exact rc_perm p nd o t)
    rw [h1, h2]
  unfold ringsD ringsL
  rw [e]
  have e3 : ringL cs (srt (ds.map (·.1))) = ringL ds (srt (ds.map (·.1))) := funext fun t => e2 _ t
  rw [e3]
end Lk

set_option Elab.async false
set_option linter.all false
set_option maxRecDepth 100000
set_option maxHeartbeats 4000000
set_option pp.maxSteps 1500
namespace Lk
open PySem PySem.Spec PyProof.Rows L2
theorem new_ne {K : PySem.W.Frag} {H : Hp} {l q p : Addr} {ns : List Int} (f : Feed K H l q ns) (h : H p = none) : p ≠ l := fun z => by
  obtain ⟨_, _, _, e, _⟩ := f
  rw [z, e] at h; cases h
/-- what is kept of a feed and of what stood ahead -/
structure FI (K : PySem.W.Frag) (H : Hp) (l q : Addr) (ns : List Int) (H' : Hp) : Prop where
  f : Feed K H' l q ns
  s : Same (del H l) (del H' l)
theorem FI.fresh {K : PySem.W.Frag} {H H' : Hp} {l q p : Addr} {ns : List Int} (f : FI K H l q ns H') (h : H' p = none) : H p = none := by
  have n := new_ne f.f h
  cases e : H p with
  | none => rfl
  | some o =>
    have := f.s p o (by rw [del_ne n]; exact e)
    rw [del_ne n, h] at this; cases this
theorem FI.put {K : PySem.W.Frag} {H H' : Hp} {l q p : Addr} {ns : List Int} (h0 : Feed K H l q ns) (f : FI K H l q ns H') (h : H p = none) (o : HO) : FI K H l q ns (upd H' p o) := by
  have n := new_ne h0 h
  have s : Same (del H l) (del (upd H' p o) l) := fun b u e => by
    by_cases c : b = l
    · subst c; rw [del_same] at e; cases e
    · have e2 := f.s b u e
      rw [del_ne c] at e e2 ⊢
      rw [upd_ne (fun z => by rw [z, h] at e; cases e)]; exact e2
  obtain ⟨a, b, t, h1, h2, h3, h4⟩ := f.f
  obtain ⟨_, _, _, _, g2, _, _⟩ := h0
  exact ⟨⟨a, b, t, by rw [upd_ne (Ne.symm n)]; exact h1, s.seq g2, h3, h4⟩, s⟩
theorem FI.new {K : PySem.W.Frag} {H H' : Hp} {l q p : Addr} {ns : List Int} (h0 : Feed K H l q ns) (f : FI K H l q ns H') (h : H' p = none) (o : HO) : FI K H l q ns (upd H' p o) := FI.put h0 f (f.fresh h) o
theorem FI.draw {K : PySem.W.Frag} {H H' H2 : Hp} {l q : Addr} {ns : List Int} (f : FI K H l q ns H') (f2 : Feed K H2 l q ns) (s2 : Same (del H' l) (del H2 l)) : FI K H l q ns H2 := ⟨f2, f.s.trans s2⟩
theorem FI.ref {K : PySem.W.Frag} {H : Hp} {l q : Addr} {ns : List Int} (f : Feed K H l q ns) : FI K H l q ns H := ⟨f, Same.refl _⟩
theorem Feed.ext {K : PySem.W.Frag} {H H' : Hp} {l q : Addr} {ns : List Int} (f : Feed K H l q ns) (e : Same H H') : Feed K H' l q ns := by
  obtain ⟨a, b, t, h1, h2, h3, h4⟩ := f
  exact ⟨a, b, t, e _ _ h1, (same_del l e).seq h2, h3, h4⟩
theorem FI.ext {K : PySem.W.Frag} {H H' H2 : Hp} {l q : Addr} {ns : List Int} (f : FI K H l q ns H') (e : Same H' H2) : FI K H l q ns H2 := ⟨f.f.ext e, f.s.trans (same_del l e)⟩
theorem del_comm (H : Hp) (a b : Addr) : del (del H a) b = del (del H b) a := by
  funext x
  by_cases h1 : x = a
  · subst h1
    rw [del_same]
    by_cases h2 : x = b
    · subst h2; rw [del_same]
    · rw [del_ne h2, del_same]
  · by_cases h2 : x = b
    · subst h2; rw [del_same, del_ne h1, del_same]
    · rw [del_ne h2, del_ne h1, del_ne h1, del_ne h2]
theorem tIf_v {c : TT} {t e : TE} {σ : L2.St} {H : Hp} {Q : VK} (b : Bool) (v : V) (hc : ∀ Q' : Bool → Hp → Prop, Q' b H → c σ H Q') (ht : b = true → ∀ Q' : VK, Q' v H → t σ H Q') (he : b = false → ∀ Q' : VK, Q' v H → e σ H Q') (k : Q v H) : tIf c t e σ H Q :=
  hc _ (by cases b with
    | true => exact iteT (ht rfl _ k)
    | false => exact iteF (he rfl _ k))
theorem del_at {H : Hp} {l a : Addr} {o : HO} (h : del H l a = some o) : H a = some o ∧ a ≠ l := by
  have n : a ≠ l := fun z => by rw [z, del_same] at h; cases h
  rw [del_ne n] at h
  exact ⟨h, n⟩
theorem menu_at {b k : Nat} : atI (menuL.map V.str) (((b : Int) + 5 * (k : Int)).fmod 12) = some (.str (menuAt b k)) := by
  have e : ((b : Int) + 5 * (k : Int)).fmod 12 = (((b + 5 * k) % 12 : Nat) : Int) := by
    rw [Int.fmod_eq_emod_of_nonneg _ (by decide)]; omega
  rw [e]
  have h : (b + 5 * k) % 12 < 12 := Nat.mod_lt _ (by decide)
  refine atI_nat ?_
  unfold menuAt
  generalize (b + 5 * k) % 12 = j at h
  have hl : j < menuL.length := h
  rw [List.getElem?_map, List.getD_eq_getElem?_getD, List.getElem?_eq_getElem hl]
  rfl
theorem strs_at' {l : List Str} {k : Nat} (h : k < l.length) : ∃ z, l[k]? = some z ∧ z ∈ l ∧ atI (l.map V.str) (k : Int) = some (.str z) := by
  refine ⟨l[k], List.getElem?_eq_getElem h, List.getElem_mem h, atI_nat ?_⟩
  rw [List.getElem?_map, List.getElem?_eq_getElem h]; rfl
def spTome (K : PySem.W.Frag) : Sp := fun vs H Q _ => ∃ (l q : Addr) (ns : List Int), vs = [.ref l] ∧ Feed K H l q ns ∧
  ∀ (tp R T G : Addr) (H' : Hp) (rs : List Rw) (ts gs : List Str) (xs : List V), DrR rs ts gs → FI K H l q ns H' → SqT K H' tp [.ref R, .ref T, .ref G] → del H' l R = some (.lst xs) → DpAll K (del H' l) xs (rs.map rowD) →
    del H' l T = some (.lst (ts.map V.str)) → del H' l G = some (.lst (gs.map V.str)) → Q (.ref tp) H'
section
variable {P : Program} {w : World} {K : PySem.W.Frag} {mg : Str → Option Value} {base : Heap}
theorem ok_tome (T : Txt K mg) : FnOk P w K mg base CX0 2 T.f__law_tome T.d__law_tome ["_law_feed_here"] (spTome K) := by
  have nd := sc__law_tome.nd
  refine T.F__law_tome.ok sc__law_tome (fun vs H Q E h => ?_) (fun cdv A outer s H vs Q E hr h => ?_)
  · obtain ⟨l, q, ns, rfl, _⟩ := h
    rfl
  obtain ⟨l, q, ns, rfl, hf, k⟩ := h
  have G__law_pick : FnOk P w K mg base CX0 1 _ _ _ (spPick K) := ok_pick T
  have hr__law_pick := hr
  refine ⟨_, (pss_cons (ps_set (i := 1) nd rfl (Or.inr rfl) (pe_lst (pa_cons pe_str (pa_cons pe_str (pa_cons pe_str (pa_cons pe_str (pa_cons pe_str (pa_cons pe_str (pa_cons pe_str (pa_cons pe_str (pa_cons pe_str (pa_cons pe_str (pa_cons pe_str (pa_cons pe_str pa_nil))))))))))))))
      (pss_cons (ps_set (i := 2) nd rfl (Or.inl rfl) (pe_ix ix_list (pe_lst (pa_cons pe_int (pa_cons pe_int (pa_cons pe_int (pa_cons pe_int (pa_cons pe_int (pa_cons pe_int (pa_cons pe_int (pa_cons pe_int (pa_cons pe_int (pa_cons pe_int (pa_cons pe_int (pa_cons pe_int pa_nil))))))))))))) (pe_call G__law_pick hr__law_pick rfl T.m__law_pick T.k__law_pick T.b__law_pick .nil pass0 (pa_cons (pv 0) (pa_cons pe_int pa_nil))) (fun _ _ => rfl)))
      (pss_cons (ps_asg (pe_tup (pa_cons (pe_call G__law_pick hr__law_pick rfl T.m__law_pick T.k__law_pick T.b__law_pick .nil pass0 (pa_cons (pv 0) (pa_cons pe_int pa_nil))) (pa_cons (pe_call G__law_pick hr__law_pick rfl T.m__law_pick T.k__law_pick T.b__law_pick .nil pass0 (pa_cons (pv 0) (pa_cons pe_int pa_nil))) pa_nil))) (pg_tup rfl (pgs_cons (pg_name (i := 3) nd rfl (Or.inr rfl)) (pgs_cons (pg_name (i := 4) nd rfl (Or.inl rfl)) pgs_nil))))
      (pss_cons (ps_setLc (i := 5) (own := [("_law_k", 8)]) (g := gName 8) (tt := tYes) (by rfl) nd rfl rfl (sw_true rfl rfl rfl (by decide +kernel)) (pi_range1 (by rfl) T.z_range (pa_cons (pv 2) pa_nil)) (blkOk_by (own := [("_law_k", 8)]) (N := sl__law_tome) (sc := defScope s__law_tome) (by decide +kernel)) (fun _ _ _ _ _ => pg_name (i := 8) nd rfl (Or.inl rfl)) (fun _ _ _ _ _ => pts_nil) (fun _ _ _ _ _ => (pe_ix (ix_listK (K := K) rfl) (pv 1) (pe_op op_modN (pe_op op_add (pv 3) (pe_op op_mul pe_int (pv 8))) pe_int) (fun _ _ => rfl))))
      (pss_cons (ps_set (i := 6) nd rfl (Or.inl rfl) (pe_lst (pa_cons pe_str (pa_cons pe_str (pa_cons (pe_ifExp (pt_cmpR op_lt (pv 2) pe_int (nomark _)) (pe_ix ix_list (pv 1) (pe_op op_modN (pe_op op_add (pv 3) (pe_op op_mul pe_int (pv 2))) pe_int) (fun _ _ => rfl)) pe_str) pa_nil)))))
      (pss_cons (ps_set (i := 7) nd rfl (Or.inl rfl) (pe_lst pa_nil))
      (pss_cons (ps_for PassesOwn.never rfl (pi_range1 (by rfl) T.z_range (pa_cons (pv 2) pa_nil)) (pg_name (i := 8) nd rfl (Or.inl rfl))
      (pss_cons (ps_set (i := 9) nd rfl (Or.inl rfl) (pe_lst pa_nil))
      (pss_cons (ps_for PassesOwn.never rfl (pi_range1 (by rfl) T.z_range (pa_cons (pe_call G__law_pick hr__law_pick rfl T.m__law_pick T.k__law_pick T.b__law_pick .nil pass0 (pa_cons (pv 0) (pa_cons (pe_ifExp (pt_cmpR op_lt (pv 2) pe_int (nomark _)) pe_int pe_int) pa_nil))) pa_nil)) (pg_name (i := 10) nd rfl (Or.inl rfl))
      (pss_cons (ps_set (i := 11) nd rfl (Or.inl rfl) (pe_ix ix_list (pv 5) (pe_call G__law_pick hr__law_pick rfl T.m__law_pick T.k__law_pick T.b__law_pick .nil pass0 (pa_cons (pv 0) (pa_cons (pv 2) pa_nil))) (fun _ _ => rfl)))
      (pss_cons (ps_if (pt_cmpR op_eq (pv 4) pe_int (nomark _)) (pss_one (ps_set (i := 11) nd rfl (Or.inl rfl) (pe_ix ix_list (pv 5) (pe_op op_modN (pe_op op_add (pv 8) pe_int) (pv 2)) (fun _ _ => rfl)))) (pss_one (ps_if (pt_cmpR op_eq (pv 4) pe_int (nomark _)) (pss_one (ps_set (i := 11) nd rfl (Or.inl rfl) (pe_ix ix_list (pv 5) (pe_op op_add (pv 8) (pe_call G__law_pick hr__law_pick rfl T.m__law_pick T.k__law_pick T.b__law_pick .nil pass0 (pa_cons (pv 0) (pa_cons (pe_op op_sub (pv 2) (pv 8)) pa_nil)))) (fun _ _ => rfl)))) pss_nil)))
      (pss_cons (ps_if (pt_cmpR op_eq (pe_call G__law_pick hr__law_pick rfl T.m__law_pick T.k__law_pick T.b__law_pick .nil pass0 (pa_cons (pv 0) (pa_cons pe_int pa_nil))) pe_int (nomark _)) (pss_one (ps_set (i := 11) nd rfl (Or.inl rfl) (pe_ix ix_list (pv 6) (pe_call G__law_pick hr__law_pick rfl T.m__law_pick T.k__law_pick T.b__law_pick .nil pass0 (pa_cons (pv 0) (pa_cons pe_int pa_nil))) (fun _ _ => rfl)))) pss_nil)
      (pss_one (ps_expr (pe_bm PySem.F.plainAttrs_list PySem.F.slot_list_append PySem.F.type_list_append mt_append (pv 9) (pa_cons (pe_tup (pa_cons (pv 11) (pa_cons (pe_call G__law_pick hr__law_pick rfl T.m__law_pick T.k__law_pick T.b__law_pick .nil pass0 (pa_cons (pv 0) (pa_cons pe_int pa_nil))) pa_nil))) pa_nil))))))))
      (pss_one (ps_expr (pe_bm PySem.F.plainAttrs_list PySem.F.slot_list_append PySem.F.type_list_append mt_append (pv 7) (pa_cons (pe_tup (pa_cons (pe_ix ix_list (pv 5) (pv 8) (fun _ _ => rfl)) (pa_cons (pe_call G__law_pick hr__law_pick rfl T.m__law_pick T.k__law_pick T.b__law_pick .nil pass0 (pa_cons (pv 0) (pa_cons pe_int pa_nil))) (pa_cons (pe_callTy call_tuple_of (by rfl) T.z_tuple (by decide +kernel) (pa_cons (pv 9) pa_nil)) pa_nil)))) pa_nil)))))))
      (pss_one (ps_ret (pe_tup (pa_cons (pv 7) (pa_cons (pv 5) (pa_cons (pv 6) pa_nil))))))))))))), ?_⟩
  refine ⟨(by show 12 ≤ sizeLine; decide), fun M hM => ?_⟩
  have f1 := FI.new hf (FI.ref hf) hM (.lst (menuL.map V.str))
  have hM1 : del (upd H M (.lst (menuL.map V.str))) l M = some (.lst (menuL.map V.str)) := by rw [del_ne (new_ne hf hM)]; exact upd_same
  refine ⟨(by show 12 ≤ sizeLine; decide), fun p1 hp1 => ?_⟩
  have f2 := FI.new hf f1 hp1 (.lst [V.int 0, .int 1, .int 2, .int 3, .int 4, .int 5, .int 6, .int 7, .int 5, .int 4, .int 6, .int 12])
  have hM2 := same_del l (same_new hp1 (.lst [V.int 0, .int 1, .int 2, .int 3, .int 4, .int 5, .int 6, .int 7, .int 5, .int 4, .int 6, .int 12])) _ _ hM1
  refine ⟨_, rfl, l, 12, q, ns, rfl, f2.f, by decide, by decide, fun r1 H3 r0 r12 g3 k3 => ?_⟩
  have hp12 : del (upd (upd H M (.lst (menuL.map V.str))) p1 (.lst [V.int 0, .int 1, .int 2, .int 3, .int 4, .int 5, .int 6, .int 7, .int 5, .int 4, .int 6, .int 12])) l p1 = some (.lst [V.int 0, .int 1, .int 2, .int 3, .int 4, .int 5, .int 6, .int 7, .int 5, .int 4, .int 6, .int 12]) := by rw [del_ne (new_ne f1.f hp1)]; exact upd_same
  have f3 := f2.draw g3 k3
  have hM3 := k3 _ _ hM2
  have hp13 := k3 _ _ hp12
  clear f1 f2 hM1 hM2 hp12 hM hp1 k3 g3
  obtain ⟨j, rfl⟩ := Int.eq_ofNat_of_zero_le r0
  obtain ⟨m, hm, hm12⟩ : ∃ m : Nat, atI [V.int 0, .int 1, .int 2, .int 3, .int 4, .int 5, .int 6, .int 7, .int 5, .int 4, .int 6, .int 12] (j : Int) = some (.int (m : Int)) ∧ m ≤ 12 := by
    have hj : j < 12 := by omega
    match j, hj with
    | 0, _ => exact ⟨0, rfl, by decide⟩
    | 1, _ => exact ⟨1, rfl, by decide⟩
    | 2, _ => exact ⟨2, rfl, by decide⟩
    | 3, _ => exact ⟨3, rfl, by decide⟩
    | 4, _ => exact ⟨4, rfl, by decide⟩
    | 5, _ => exact ⟨5, rfl, by decide⟩
    | 6, _ => exact ⟨6, rfl, by decide⟩
    | 7, _ => exact ⟨7, rfl, by decide⟩
    | 8, _ => exact ⟨5, rfl, by decide⟩
    | 9, _ => exact ⟨4, rfl, by decide⟩
    | 10, _ => exact ⟨6, rfl, by decide⟩
    | 11, _ => exact ⟨12, rfl, by decide⟩
  refine ⟨p1, _, _, _, rfl, rfl, SqL.of (del_at hp13).1, hm, ?_⟩
  clear hp13
  refine ⟨_, rfl, l, 12, q, ns, rfl, f3.f, by decide, by decide, fun r2 H4 b0 b12 g4 k4 => ?_⟩
  have f4 := f3.draw g4 k4
  have hM4 := k4 _ _ hM3
  refine ⟨_, rfl, l, 4, q, ns, rfl, f4.f, by decide, by decide, fun sty H5 s0 s4 g5 k5 => ⟨(by show 2 ≤ sizeLine; decide), fun tb htb => ?_⟩⟩
  have f5 := f4.draw g5 k5
  have hM5 := k5 _ _ hM4
  obtain ⟨b, rfl⟩ := Int.eq_ofNat_of_zero_le b0
  have hb12 : b < 12 := by omega
  refine ⟨tb, _, rfl, SqT.of upd_same, rfl, _, _, rfl, _, _, rfl, rfl, ?_⟩
  have f6 := FI.new hf f5 htb (.tup [V.int (b : Int), .int sty])
  have hM6 := same_del l (same_new htb (.tup [V.int (b : Int), .int sty])) _ _ hM5
  generalize upd H5 tb (.tup [V.int (b : Int), .int sty]) = H6 at f6 hM6 ⊢
  clear f3 f4 f5 hM3 hM4 hM5 htb k4 k5 g4 g5
  obtain ⟨tnd, tin, gin⟩ := ttls_all b (List.mem_range.mpr hb12) m (List.mem_range.mpr (by omega))
  -- the titles
  refine ⟨_, rfl, _, rfl, (by omega), (by omega), fun TA hTA => ?_⟩
  refine lc_range (lo := 0) (n := ((m : Nat) : Int).toNat) (fun i H' => Same H6 H' ∧ H' TA = some (.lst ((ttlsOf b i).map V.str))) ?_ ?_ ?_
  · exact ⟨same_new hTA _, upd_same⟩
  · rintro i H' hi ⟨e, eT⟩
    rw [Int.zero_add]
    refine ⟨rfl, ?_⟩
    have hi2 : i < m := by omega
    refine ⟨_, rfl, _, rfl, _, rfl, _, _, rfl, rfl, .inl ⟨by decide, by decide⟩, _, _, rfl, rfl, _, _, rfl, rfl, (by show (12 : Int) ≠ 0; decide), M, _, _, _, rfl, rfl, SqL.of (e _ _ (del_at hM6).1), menu_at, ?_⟩
    refine ⟨_, eT, ?_, same_mut e hTA, ?_⟩
    · rw [List.length_map]; unfold ttlsOf; rw [List.length_map, List.length_range]; exact szl (by omega)
    · rw [upd_same]
      unfold ttlsOf
      rw [List.range_succ, List.map_append, List.map_append]; rfl
  · rintro H7 ⟨e7, eT⟩
    rw [Int.toNat_natCast] at eT
    have f7 := f6.ext e7
    have hM7 := same_del l e7 _ _ hM6
    have hT7 : del H7 l TA = some (.lst ((ttlsOf b m).map V.str)) := by rw [del_ne (new_ne f6.f hTA)]; exact eT
    clear f6 hM6 e7 hTA eT
    dsimp only [gName]
    refine at_st [some (.ref l), some (.ref M), some (.int (m : Int)), some (.int (b : Int)), some (.int sty), some (.ref TA), none, none, none, none, none, none] rfl ?_
    refine tIf_v (decide ((m : Int) < 12)) (.str (if m < 12 then menuAt b m else "x")) (fun Q' h => ⟨_, rfl, _, _, rfl, rfl, _, rfl, h⟩) (fun c Q' h => ?_) (fun c Q' h => ?_) ?_
    · have c' : m < 12 := by have := of_decide_eq_true c; omega
      rw [if_pos c'] at h
      exact ⟨_, rfl, _, rfl, _, rfl, _, _, rfl, rfl, .inl ⟨by decide, by decide⟩, _, _, rfl, rfl, _, _, rfl, rfl, (by show (12 : Int) ≠ 0; decide), M, _, _, _, rfl, rfl, SqL.of (del_at hM7).1, menu_at, h⟩
    · have c' : ¬ m < 12 := by have := of_decide_eq_false c; omega
      rw [if_neg c'] at h
      exact h
    refine ⟨(by show 3 ≤ sizeLine; decide), fun G hG => ?_⟩
    rw [show [V.str "ghost", .str "aa", .str (if m < 12 then menuAt b m else "x")] = (ghostsOf b m).map V.str from rfl]
    have f8 := FI.new hf f7 hG (.lst ((ghostsOf b m).map V.str))
    have hM8 := same_del l (same_new hG (.lst ((ghostsOf b m).map V.str))) _ _ hM7
    have hT8 := same_del l (same_new hG (.lst ((ghostsOf b m).map V.str))) _ _ hT7
    have hG8 : del (upd H7 G (.lst ((ghostsOf b m).map V.str))) l G = some (.lst ((ghostsOf b m).map V.str)) := by rw [del_ne (new_ne f7.f hG)]; exact upd_same
    refine ⟨(by show 0 ≤ sizeLine; decide), fun R hR => ?_⟩
    have f9 := FI.new hf f8 hR (.lst [])
    have hT9 := same_del l (same_new hR (.lst [])) _ _ hT8
    have hG9 := same_del l (same_new hR (.lst [])) _ _ hG8
    have hR9 : del (upd (upd H7 G (.lst ((ghostsOf b m).map V.str))) R (.lst [])) l R = some (.lst []) := by rw [del_ne (new_ne f8.f hR)]; exact upd_same
    have nRH : H R = none := f8.fresh hR
    have nRT : R ≠ TA := fun z => by rw [z, (del_at hT8).1] at hR; cases hR
    have nRG : R ≠ G := fun z => by rw [z, (del_at hG8).1] at hR; cases hR
    have nRl := new_ne hf nRH
    generalize ets : ttlsOf b m = ts at tnd tin gin hT7 hT8 hT9
    have lts : ts.length = m := by rw [← ets]; unfold ttlsOf; rw [List.length_map, List.length_range]
    have lgs : (ghostsOf b m).length = 3 := rfl
    generalize ghostsOf b m = gs at gin hG8 hG9 f8 f9 hT8 hT9 hM8 hR hR9 lgs ⊢
    generalize upd (upd H7 G (.lst (gs.map V.str))) R (.lst []) = H9 at f9 hT9 hG9 hR9 ⊢
    clear f7 f8 hM7 hM8 hT7 hT8 hG8 hR hG
    dsimp only [gName]
    refine at_st [some (.ref l), some (.ref M), some (.int (m : Int)), some (.int (b : Int)), some (.int sty), some (.ref TA), some (.ref G), some (.ref R), none, none, none, none] rfl ?_
    let Pv : Nat → L2.St → Hp → Prop := fun i σ H' => ∃ (o8 o9 o10 o11 : Option V), σ = [some (.ref l), some (.ref M), some (.int (m : Int)), some (.int (b : Int)), some (.int sty), some (.ref TA), some (.ref G), some (.ref R), o8, o9, o10, o11] ∧ FI K H l q ns H' ∧
      del H' l TA = some (.lst (ts.map V.str)) ∧ del H' l G = some (.lst (gs.map V.str)) ∧ ∃ (rs : List Rw) (xs : List V), del H' l R = some (.lst xs) ∧ DpAll K (del (del H' l) R) xs (rs.map rowD) ∧ rs.map (·.1) = ts.take i ∧ ∀ r ∈ rs, RowOk ts gs r
    refine ⟨_, rfl, _, rfl, (by omega), (by omega), ?_⟩
    refine for_range (lo := 0) (n := ((m : Nat) : Int).toNat) Pv ⟨_, _, _, _, rfl, f9, hT9, hG9, [], [], hR9, .nil, rfl, (fun _ h => nomatch h)⟩ ?_ ?_
    · rintro i σ H1 hi ⟨o8, o9, o10, o11, rfl, f1, hT1, hG1, rs, xs, hR1, hx1, hrs, hok⟩
      have him : i < m := by omega
      rw [Int.zero_add]
      refine ⟨(by show 0 ≤ sizeLine; decide), fun C hC => ?_⟩
      have hrl : rs.length = i := by have := congrArg List.length hrs; rw [List.length_map, List.length_take, lts] at this; omega
      have hxl : xs.length = i := by rw [dp_len hx1, List.length_map, hrl]
      have nCT : TA ≠ C := fun z => by rw [z] at hT1; rw [(del_at hT1).1] at hC; cases hC
      have nCG : G ≠ C := fun z => by rw [z] at hG1; rw [(del_at hG1).1] at hC; cases hC
      have nCR : R ≠ C := fun z => by rw [z] at hR1; rw [(del_at hR1).1] at hC; cases hC
      have nCl := new_ne f1.f hC
      have nCH : H C = none := f1.fresh hC
      have f2 := FI.new hf f1 hC (.lst [])
      have s12 : Same (del H1 l) (del (del (upd H1 C (.lst [])) l) C) := by
        rw [del_comm, del_upd, del_comm]
        exact fun a o h => by
          have := del_at h
          rw [del_ne (fun z => by rw [z, hC] at this; cases this.1)]; exact h
      have hC2 : del (upd H1 C (.lst [])) l C = some (.lst []) := by rw [del_ne nCl]; exact upd_same
      have hT2 : del (upd H1 C (.lst [])) l TA = some (.lst (ts.map V.str)) := del_le _ C _ _ (s12 _ _ hT1)
      have hG2 : del (upd H1 C (.lst [])) l G = some (.lst (gs.map V.str)) := del_le _ C _ _ (s12 _ _ hG1)
      generalize upd H1 C (.lst []) = H2 at f2 s12 hC2 hT2 hG2 ⊢
      dsimp only [gName]
      refine at_st [some (.ref l), some (.ref M), some (.int (m : Int)), some (.int (b : Int)), some (.int sty), some (.ref TA), some (.ref G), some (.ref R), some (.int (i : Int)), some (.ref C), o10, o11] rfl ?_
      let PI : Nat → Hp → Prop := fun t H' => Feed K H' l q ns ∧ Same (del (del H2 l) C) (del (del H' l) C) ∧ ∃ (ys : List V) (cl : List (Str × Int)), del H' l C = some (.lst ys) ∧ DpAll K (del H' l) ys (cl.map callD) ∧ cl.length = t ∧ ∀ c ∈ cl, 0 ≤ c.2 ∧ (c.1 ∈ ts ∨ c.1 ∈ gs)
      have draw : ∀ {t : Nat} {H' H3 : Hp}, PI t H' → Feed K H3 l q ns → Same (del H' l) (del H3 l) → PI t H3 := fun {t H' H3} ⟨_, s, ys, cl, h1, h2, h3⟩ f s3 => ⟨f, s.trans (same_del C s3), ys, cl, s3 _ _ h1, dpAll_same s3 h2, h3⟩
      have tT : ∀ {t : Nat} {H' : Hp}, PI t H' → H' TA = some (.lst (ts.map V.str)) := fun {t H'} p => (del_at (del_le _ C _ _ (p.2.1 _ _ (by rw [del_ne nCT]; exact hT2)))).1
      have tG : ∀ {t : Nat} {H' : Hp}, PI t H' → H' G = some (.lst (gs.map V.str)) := fun {t H'} p => (del_at (del_le _ C _ _ (p.2.1 _ _ (by rw [del_ne nCG]; exact hG2)))).1
      have p2 : PI 0 H2 := ⟨f2.f, Same.refl _, [], [], hC2, .nil, rfl, (fun _ h => nomatch h)⟩
      have m0 : (0 : Int) < (m : Int) := by omega
      have cq : SqL K (del (del H2 l) C) q (iV ns) := by
        obtain ⟨_, _, _, _, cq, _, _⟩ := f1.f
        exact s12.seq cq
      have put : ∀ {t : Nat} {H' : Hp} {ys : List V} {cl : List (Str × Int)} {v : V} {c : Str × Int}, PI t H' → H' C = some (.lst ys) → DpAll K (del H' l) ys (cl.map callD) → cl.length = t → (∀ c ∈ cl, 0 ≤ c.2 ∧ (c.1 ∈ ts ∨ c.1 ∈ gs)) →
          Dp K (del H' l) v (callD c) → 0 ≤ c.2 ∧ (c.1 ∈ ts ∨ c.1 ∈ gs) → PI (t + 1) (upd H' C (.lst (ys ++ [v]))) := fun {t H' ys cl v c} ⟨⟨a1, a2, a3, h1, _, h3, h4⟩, s, _⟩ hC hd hl hcl hv hc => by
        have e1 : del (del (upd H' C (.lst (ys ++ [v]))) l) C = del (del H' l) C := by rw [del_comm, del_upd, del_comm]
        have s' : Same (del (del H2 l) C) (del (del (upd H' C (.lst (ys ++ [v]))) l) C) := by rw [e1]; exact s
        have hC' : del H' l C = some (.lst ys) := by rw [del_ne nCl]; exact hC
        refine ⟨⟨a1, a2, a3, by rw [upd_ne nCl.symm]; exact h1, (del_le _ C).seq (s'.seq cq), h3, h4⟩, s', _, cl ++ [c], by rw [del_ne nCl]; exact upd_same, ?_, by rw [List.length_append, hl]; rfl, fun x m => ?_⟩
        · rw [List.map_append]
          have h5 : DpAll K (del (del H' l) C) (ys ++ [v]) (cl.map callD ++ [callD c]) := dpAll_app (dpAll_off hC' (noLs_map noL_call cl) hd) (dp_off hC' (noL_call c) hv)
          rw [← e1] at h5
          exact dpAll_same (del_le _ C) h5
        · rcases List.mem_append.mp m with m | m
          · exact hcl x m
          · rw [List.mem_singleton.mp m]; exact hc
      refine ⟨_, rfl, tIf_v (decide ((m : Int) < 9)) (.int (if m < 9 then 4 else 3)) (fun Q' h => ⟨_, rfl, _, _, rfl, rfl, _, rfl, h⟩) (fun c Q' h => ?_) (fun c Q' h => ?_) ?_⟩
      · rw [if_pos (by have := of_decide_eq_true c; omega)] at h; exact h
      · rw [if_neg (by have := of_decide_eq_false c; omega)] at h; exact h
      have hw : (3 : Int) ≤ (if m < 9 then 4 else 3) ∧ (if m < 9 then (4 : Int) else 3) ≤ 4 := by split <;> omega
      generalize (if m < 9 then (4 : Int) else 3) = wd at hw
      refine ⟨l, wd, q, ns, rfl, f2.f, by omega, by omega, fun rr H3 rr0 rr1 g3 k3 => ?_⟩
      have p3 := draw p2 g3 k3
      obtain ⟨nn, rfl⟩ := Int.eq_ofNat_of_zero_le rr0
      refine ⟨_, rfl, (by omega), (by omega), ?_⟩
      refine for_range (lo := 0) (n := ((nn : Nat) : Int).toNat) (fun t σ H' => ∃ (o10 o11 : Option V), σ = [some (.ref l), some (.ref M), some (.int (m : Int)), some (.int (b : Int)), some (.int sty), some (.ref TA), some (.ref G), some (.ref R), some (.int (i : Int)), some (.ref C), o10, o11] ∧ PI t H') ⟨_, _, rfl, p3⟩ ?_ ?_
      · rintro t σ H' ht ⟨o10, o11, rfl, pt⟩
        rw [Int.zero_add]
        have ht3 : t < 3 := by omega
        have isT : ∀ {z : Str}, z ∈ ts → z ∈ ts ∨ z ∈ gs := fun h => .inl h
        refine ⟨_, rfl, _, rfl, _, rfl, l, m, q, ns, rfl, pt.1, m0, (by omega), fun g1 H4 g10 g11 g4 k4 => ?_⟩
        have p4 := draw pt g4 k4
        obtain ⟨x1, rfl⟩ := Int.eq_ofNat_of_zero_le g10
        obtain ⟨z1, _, mz1, az1⟩ := strs_at' (l := ts) (k := x1) (by omega)
        refine ⟨TA, _, _, _, rfl, rfl, SqL.of (tT p4), az1, ?_⟩
        dsimp only [gName]
        refine seq_mid (t1 := tIfS _ _ _) (fun σ' H' => ∃ goal : Str, σ' = [some (.ref l), some (.ref M), some (.int (m : Int)), some (.int (b : Int)), some (.int sty), some (.ref TA), some (.ref G), some (.ref R), some (.int (i : Int)), some (.ref C), some (.int (t : Int)), some (.str goal)] ∧ (goal ∈ ts ∨ goal ∈ gs) ∧ PI t H') ?_ ?_
        · rintro σ' H5 ⟨goal, rfl, hgoal, p5⟩
          refine seq_mid (t1 := tIfS _ _ _) (fun σ' H' => ∃ goal : Str, σ' = [some (.ref l), some (.ref M), some (.int (m : Int)), some (.int (b : Int)), some (.int sty), some (.ref TA), some (.ref G), some (.ref R), some (.int (i : Int)), some (.ref C), some (.int (t : Int)), some (.str goal)] ∧ (goal ∈ ts ∨ goal ∈ gs) ∧ PI t H') ?_ ?_
          · rintro σ' H6 ⟨goal, rfl, hgoal, p6⟩
            obtain ⟨_, _, ys, cl, y1, y2, y3, y4⟩ := id p6
            have lys : ys.length = t := by rw [dp_len y2, List.length_map, y3]
            refine ⟨_, rfl, .inl ⟨rfl, _, SqL.of (del_at y1).1⟩, _, rfl, _, rfl, l, 6, q, ns, rfl, p6.1, (by decide), (by decide), fun v H7 v0 v1 g7 k7 => ⟨(by show 2 ≤ sizeLine; decide), fun tp htp => ?_⟩⟩
            have p7 := draw p6 g7 k7
            have s8 := same_new htp (.tup [.str goal, .int v])
            have p8 := draw p7 (p7.1.ext s8) (same_del l s8)
            have htp8 : del (upd H7 tp (.tup [.str goal, .int v])) l tp = some (.tup [.str goal, .int v]) := by rw [del_ne (new_ne p7.1 htp)]; exact upd_same
            generalize upd H7 tp (.tup [.str goal, .int v]) = H8 at s8 p8 htp8 ⊢
            obtain ⟨f8', s8', _⟩ := id p8
            have y18 : H8 C = some (.lst ys) := by
              have := (del_at (k7 _ _ y1)).1
              exact s8 _ _ this
            refine ⟨C, ys, _, rfl, rfl, y18, szl (by omega), ?_⟩
            exact ⟨_, _, rfl, put (c := (goal, v)) p8 y18 (dpAll_same ((k7).trans (same_del l s8)) y2) y3 y4 (.tup (SqT.of htp8) (.cons (.str _) (.cons (.int _) .nil))) ⟨v0, hgoal⟩⟩
          · intro nx hnx
            refine ⟨_, rfl, l, 9, q, ns, rfl, p5.1, (by decide), (by decide), fun v H6 v0 v1 g6 k6 => ?_⟩
            have p6 := draw p5 g6 k6
            refine ⟨rfl, _, rfl, ?_⟩
            refine ite2 (fun _ => ?_) (fun _ => ?_)
            · refine ⟨_, rfl, _, rfl, l, 3, q, ns, rfl, p6.1, (by decide), (by decide), fun v H7 v0 v1 g7 k7 => ?_⟩
              have p7 := draw p6 g7 k7
              obtain ⟨x2, rfl⟩ := Int.eq_ofNat_of_zero_le v0
              obtain ⟨z2, _, mz2, az2⟩ := strs_at' (l := gs) (k := x2) (by omega)
              refine ⟨G, _, _, _, rfl, rfl, SqL.of (tG p7), az2, ?_⟩
              exact hnx _ _ ⟨z2, rfl, .inr mz2, p7⟩
            · exact hnx _ _ ⟨goal, rfl, hgoal, p6⟩
        · intro nx hnx
          refine ⟨_, rfl, rfl, _, rfl, ?_⟩
          refine ite2 (fun _ => ?_) (fun _ => ?_)
          · obtain ⟨z2, _, mz2, az2⟩ := strs_at' (l := ts) (k := (i + 1) % m) (by rw [lts]; exact Nat.mod_lt _ (by omega))
            have e2 : ((i : Int) + 1).fmod (m : Int) = (((i + 1) % m : Nat) : Int) := by
              rw [Int.fmod_eq_emod_of_nonneg _ (by omega), Int.natCast_emod]; rfl
            refine ⟨_, rfl, _, rfl, _, _, rfl, rfl, _, rfl, _, _, rfl, rfl, (by show (m : Int) ≠ 0; omega), TA, _, _, _, rfl, rfl, SqL.of (tT p4), (congrArg (atI (ts.map V.str)) e2).trans az2, ?_⟩
            exact hnx _ _ ⟨z2, rfl, .inl mz2, p4⟩
          · refine ⟨_, rfl, rfl, _, rfl, ?_⟩
            refine ite2 (fun _ => ?_) (fun _ => ?_)
            · refine ⟨_, rfl, _, rfl, _, rfl, _, rfl, _, rfl, _, _, rfl, rfl, l, _, q, ns, rfl, p4.1, (by omega), (by omega), fun v H5 v0 v1 g5 k5 => ?_⟩
              have p5 := draw p4 g5 k5
              obtain ⟨x2, rfl⟩ := Int.eq_ofNat_of_zero_le v0
              obtain ⟨z2, _, mz2, az2⟩ := strs_at' (l := ts) (k := i + x2) (by omega)
              refine ⟨_, _, rfl, rfl, TA, _, _, _, rfl, rfl, SqL.of (tT p5), (congrArg (atI (ts.map V.str)) (by omega)).trans az2, ?_⟩
              exact hnx _ _ ⟨z2, rfl, .inl mz2, p5⟩
            · exact hnx _ _ ⟨z1, rfl, .inl mz1, p4⟩
      · rintro σ H4 ⟨o10, o11, rfl, p4⟩
        rw [Int.toNat_natCast] at p4
        obtain ⟨z1, ez1, mz1, az1⟩ := strs_at' (l := ts) (k := i) (by omega)
        have hR4 : H4 R = some (.lst xs) := (del_at (del_le _ C _ _ (p4.2.1 _ _ (s12 _ _ hR1)))).1
        have h14 : Same (del H1 l) (del H4 l) := (s12.trans p4.2.1).trans (del_le _ C)
        refine ⟨_, rfl, .inl ⟨rfl, _, SqL.of hR4⟩, _, rfl, _, rfl, TA, _, _, _, rfl, rfl, SqL.of (tT p4), az1, _, rfl, l, 5, q, ns, rfl, p4.1, (by decide), (by decide), fun v H5 v0 v1 g5 k5 => ?_⟩
        have p5 := draw p4 g5 k5
        obtain ⟨f5, _, ys, cl, y1, y2, y3, y4⟩ := id p5
        refine ⟨_, rfl, C, _, rfl, .inl ⟨SqL.of (del_at y1).1, fun tc htc => ⟨(by show 3 ≤ sizeLine; decide), fun tp htp => ?_⟩⟩⟩
        have s6 := same_new htc (.tup ys)
        have s7 := same_new htp (.tup [.str z1, .int v, .ref tc])
        have htc7 : del (upd (upd H5 tc (.tup ys)) tp (.tup [.str z1, .int v, .ref tc])) l tc = some (.tup ys) := same_del l s7 _ _ (by rw [del_ne (new_ne f5 htc)]; exact upd_same)
        have htp7 : del (upd (upd H5 tc (.tup ys)) tp (.tup [.str z1, .int v, .ref tc])) l tp = some (.tup [.str z1, .int v, .ref tc]) := by rw [del_ne (new_ne (f5.ext s6) htp)]; exact upd_same
        have s57 := s6.trans s7
        generalize upd (upd H5 tc (.tup ys)) tp (.tup [.str z1, .int v, .ref tc]) = H7 at s57 htc7 htp7 ⊢
        have s17 : Same (del H1 l) (del H7 l) := h14.trans (k5.trans (same_del l s57))
        have hR7 := s17 _ _ hR1
        refine ⟨R, xs, _, rfl, rfl, (del_at hR7).1, szl (by omega), ?_⟩
        have e8 : del (del (upd H7 R (.lst (xs ++ [.ref tp]))) l) R = del (del H7 l) R := by rw [del_comm, del_upd, del_comm]
        have s8 : Same (del (del H1 l) R) (del (del (upd H7 R (.lst (xs ++ [.ref tp]))) l) R) := by rw [e8]; exact same_del R s17
        have keep : ∀ {a : Addr} {o : HO}, a ≠ R → del H1 l a = some o → del (upd H7 R (.lst (xs ++ [.ref tp]))) l a = some o := fun {a o} n h => del_le _ R _ _ (s8 _ _ (by rw [del_ne n]; exact h))
        have fI : FI K H l q ns (upd H7 R (.lst (xs ++ [.ref tp]))) := FI.put hf ((f1.draw p4.1 h14).draw (f5.ext s57) (k5.trans (same_del l s57))) nRH _
        have hrow : Dp K (del (del H7 l) R) (.ref tp) (rowD (z1, v, cl)) := by
          refine dp_off hR7 (noL_row _) ?_
          exact .tup (SqT.of htp7) (.cons (.str _) (.cons (.int _) (.cons (.tup (SqT.of htc7) (dpAll_same (same_del l s57) y2)) .nil)))
        refine ⟨_, _, _, _, rfl, fI, keep nRT.symm hT1, keep nRG.symm hG1, rs ++ [(z1, v, cl)], _, by rw [del_ne nRl]; exact upd_same, ?_, ?_, ?_⟩
        · rw [e8, List.map_append]
          exact dpAll_app (dpAll_same (same_del R s17) hx1) hrow
        · rw [List.map_append, hrs, List.take_succ, ez1]; rfl
        · intro r mr
          rcases List.mem_append.mp mr with mr | mr
          · exact hok r mr
          · rw [List.mem_singleton.mp mr]
            exact ⟨v0, by show cl.length ≤ 3; omega, y4⟩
    · rintro σ H1 ⟨o8, o9, o10, o11, rfl, f1, hT1, hG1, rs, xs, hR1, hx1, hrs, hok⟩
      rw [Int.toNat_natCast] at hrs
      rw [← lts, List.take_length] at hrs
      refine ⟨_, rfl, _, rfl, _, rfl, (by show 3 ≤ sizeLine; decide), fun tp htp => ?_⟩
      have f2 := f1.ext (same_new htp (.tup [.ref R, .ref TA, .ref G]))
      have s2 := same_del l (same_new htp (.tup [.ref R, .ref TA, .ref G]))
      exact k tp R TA G _ rs ts gs xs ⟨hrs, tnd, tin, gin, lgs, by omega, hok⟩ f2 (SqT.of upd_same) (s2 _ _ hR1) (dpAll_same s2 (dpAll_same (del_le _ R) hx1)) (s2 _ _ hT1) (s2 _ _ hG1)
end
end Lk

set_option Elab.async false
set_option linter.all false
set_option maxRecDepth 100000
set_option maxHeartbeats 4000000
set_option pp.maxSteps 1500
namespace Lk
open PySem PySem.Spec PyProof.Rows L2
/-- a dict of lists of texts, its lists new ones -/
structure WY (HB H' : Hp) (W : Addr) (ts : List Str) (la : Str → Addr) (f : Str → List Str) : Prop where
  base : Same HB H'
  w : H' W = some (.dK (ts.map fun t => ((Sum.inr t : Key), V.ref (la t))))
  wn : HB W = none
  ls : ∀ t ∈ ts, H' (la t) = some (.lst ((f t).map V.str))
  ln : ∀ t ∈ ts, HB (la t) = none
  inj : ∀ t ∈ ts, ∀ u ∈ ts, la t = la u → t = u
theorem way_val {ts : List Str} {la : Str → Addr} {t : Str} (h : t ∈ ts) : valV (ts.map fun t => ((Sum.inr t : Key), V.ref (la t))) (Sum.inr t) = some (.ref (la t)) := by
  induction ts with
  | nil => cases h
  | cons u ts ih =>
    by_cases e : u = t
    · subst e; exact valV_pos rfl
    · show valV (((Sum.inr u : Key), V.ref (la u)) :: _) _ = _
      rw [valV_neg (fun q => e (Sum.inr.inj q))]
      exact ih ((List.mem_cons.mp h).resolve_left fun q => e q.symm)
theorem way_none {ts : List Str} {la : Str → Addr} {t : Str} (h : t ∉ ts) : valV (ts.map fun t => ((Sum.inr t : Key), V.ref (la t))) (Sum.inr t) = none := by
  induction ts with
  | nil => rfl
  | cons u ts ih =>
    have e : u ≠ t := fun q => h (by rw [q]; exact List.mem_cons_self)
    show valV (((Sum.inr u : Key), V.ref (la u)) :: _) _ = _
    rw [valV_neg (fun q => e (Sum.inr.inj q))]
    exact ih fun q => h (List.mem_cons_of_mem _ q)
section
variable {HB H' H2 : Hp} {W : Addr} {ts : List Str} {la : Str → Addr} {f : Str → List Str}
theorem WY.neW (y : WY HB H' W ts la f) {t : Str} (h : t ∈ ts) : la t ≠ W := fun z => by
  have := y.ls t h
  rw [z, y.w] at this; cases this
theorem WY.get (y : WY HB H' W ts la f) {t : Str} (h : t ∈ ts) : DGet H' W (.str t) (some (.ref (la t))) := .inl ⟨_, Sum.inr t, .inl y.w, rfl, (way_val h).symm⟩
theorem WY.ext (y : WY HB H' W ts la f) (e : Same H' H2) : WY HB H2 W ts la f := ⟨y.base.trans e, e _ _ y.w, y.wn, fun t h => e _ _ (y.ls t h), y.ln, y.inj⟩
theorem WY.eq {g : Str → List Str} (y : WY HB H' W ts la f) (h : ∀ t ∈ ts, f t = g t) : WY HB H' W ts la g := ⟨y.base, y.w, y.wn, fun t m => by rw [← h t m]; exact y.ls t m, y.ln, y.inj⟩
theorem WY.set (y : WY HB H' W ts la f) {t : Str} (h : t ∈ ts) (g : List Str) : WY HB (upd H' (la t) (.lst (g.map V.str))) W ts la (fun u => if u = t then g else f u) := by
  refine ⟨same_mut y.base (y.ln t h), by rw [upd_ne (y.neW h).symm]; exact y.w, y.wn, fun u m => ?_, y.ln, y.inj⟩
  by_cases e : u = t
  · subst e; rw [upd_same, if_pos rfl]
  · rw [upd_ne (fun q => e (y.inj u m t h q)), if_neg e]; exact y.ls u m
/-- one more list, new and without items -/
theorem WY.grow (y : WY HB H' W ts la f) {t : Str} {L : Addr} (h : t ∉ ts) (hL : H' L = none) :
    WY HB (upd (upd H' L (.lst [])) W (.dK (putK (ts.map fun t => ((Sum.inr t : Key), V.ref (la t))) (Sum.inr t) (.ref L)))) W (ts ++ [t]) (fun u => if u = t then L else la u) (fun u => if u = t then [] else f u) := by
  have nL : ∀ u ∈ ts, la u ≠ L := fun u m z => by
    have := y.ls u m
    rw [z, hL] at this; cases this
  have nLW : L ≠ W := fun z => by rw [z, y.w] at hL; cases hL
  have ne : ∀ u ∈ ts, u ≠ t := fun u m z => h (by rw [← z]; exact m)
  have hLB := none_of y.base hL
  refine ⟨same_mut (y.base.trans (same_new hL _)) y.wn, ?_, y.wn, fun u m => ?_, fun u m => ?_, fun u m v n e => ?_⟩
  · rw [upd_same, putK_new _ (way_none h), List.map_append]
    have e1 : (ts.map fun u => ((Sum.inr u : Key), V.ref (la u))) = ts.map fun u => ((Sum.inr u : Key), V.ref (if u = t then L else la u)) := List.map_congr_left fun u m => by rw [if_neg (ne u m)]
    rw [e1]
    show _ = some (HO.dK (_ ++ [(Sum.inr t, V.ref (if t = t then L else la t))]))
    rw [if_pos rfl]
  · rcases List.mem_append.mp m with m | m
    · rw [if_neg (ne u m), if_neg (ne u m), upd_ne (y.neW m), upd_ne (nL u m)]
      exact y.ls u m
    · rw [List.mem_singleton.mp m, if_pos rfl, if_pos rfl, upd_ne nLW, upd_same]; rfl
  · rcases List.mem_append.mp m with m | m
    · rw [if_neg (ne u m)]; exact y.ln u m
    · rw [List.mem_singleton.mp m, if_pos rfl]; exact hLB
  · rcases List.mem_append.mp m with m | m <;> rcases List.mem_append.mp n with n | n
    · rw [if_neg (ne u m), if_neg (ne v n)] at e; exact y.inj u m v n e
    · rw [if_neg (ne u m), List.mem_singleton.mp n, if_pos rfl] at e; exact absurd e (nL u m)
    · rw [if_neg (ne v n), List.mem_singleton.mp m, if_pos rfl] at e; exact absurd e.symm (nL v n)
    · rw [List.mem_singleton.mp m, List.mem_singleton.mp n]
end
theorem ded_nodup (ks : List Str) : (dedS ks).Nodup := by
  suffices ∀ (ks acc : List Str), acc.Nodup → (ks.foldl addS acc).Nodup from this ks [] List.nodup_nil
  intro ks
  induction ks with
  | nil => exact fun acc h => h
  | cons z ks ih =>
    intro acc h
    refine ih _ ?_
    unfold addS
    split
    · exact h
    · next m => exact List.nodup_append.mpr ⟨h, by simp, fun a ha b hb e => m (by rw [← List.mem_singleton.mp hb, ← e]; exact ha)⟩
theorem row_in {K : PySem.W.Frag} {H : Hp} {x : V} {r : Rw} (h : Dp K H x (rowD r)) : ∃ (a b : Addr) (zs : List V), x = .ref a ∧ SqT K H a [.str r.1, .int r.2.1, .ref b] ∧ SqT K H b zs ∧ DpAll K H zs (r.2.2.map callD) := by
  cases h with
  | tup ha hx =>
    cases hx with
    | cons h0 t =>
      cases t with
      | cons h1 t =>
        cases t with
        | cons h2 t =>
          cases t
          cases h0
          cases h1
          cases h2 with
          | tup hb hy => exact ⟨_, _, _, rfl, ha, hb, hy⟩
theorem call_in {K : PySem.W.Frag} {H : Hp} {x : V} {c : Str × Int} (h : Dp K H x (callD c)) : ∃ (a : Addr), x = .ref a ∧ SqT K H a [.str c.1, .int c.2] := by
  cases h with
  | tup ha hx =>
    cases hx with
    | cons h0 t =>
      cases t with
      | cons h1 t =>
        cases t
        cases h0
        cases h1
        exact ⟨_, rfl, ha⟩
def spWays (K : PySem.W.Frag) : Sp := fun vs H Q _ => ∃ (R TA : Addr) (xs : List V) (rs : List Rw) (ts gs : List Str), vs = [.ref R, .ref TA] ∧ SqL K H R xs ∧ DpAll K H xs (rs.map rowD) ∧ SqL K H TA (ts.map V.str) ∧ DrR rs ts gs ∧
  ∀ (W : Addr) (H' : Hp) (la : Str → Addr) (f : Str → List Str), WY H H' W ts la f → (∀ t ∈ ts, (f t).Nodup ∧ ∀ z, z ∈ f t ↔ Rc (csOf rs) t z) → Q (.ref W) H'
section
variable {P : Program} {w : World} {K : PySem.W.Frag} {mg : Str → Option Value} {base : Heap}
theorem ok_ways (T : Txt K mg) : FnOk P w K mg base CX0 1 T.f__law_ways T.d__law_ways ["_law_rows", "_law_titles"] (spWays K) := by
  have nd := sc__law_ways.nd
  refine T.F__law_ways.ok sc__law_ways (fun vs H Q E h => ?_) (fun cdv A outer s H vs Q E hr h => ?_)
  · obtain ⟨R, TA, xs, rs, ts, gs, rfl, _⟩ := h
    rfl
  obtain ⟨R, TA, xs, rs, ts, gs, rfl, hR, hx, hT, dr, k⟩ := h
  refine ⟨_, (pss_cons (ps_set (i := 2) nd rfl (Or.inr rfl) pe_dnewK)
      (pss_cons (ps_for PassesOwn.never rfl (pi_list (pv 0)) (pg_name (i := 3) nd rfl (Or.inl rfl))
      (pss_cons (ps_dput (hu1 hr) (pv 2) (pe_ix ix_tup (pv 3) pe_int (fun _ _ => rfl)) (pe_lst pa_nil) rfl)
      (pss_one (ps_for PassesOwn.never rfl (pi_tup (pe_ix ix_tup (pv 3) pe_int (fun _ _ => rfl))) (pg_name (i := 4) nd rfl (Or.inl rfl))
      (pss_one (ps_if (pt_cmpR op_notIn_seq (pe_ix ix_tup (pv 4) pe_int (fun _ _ => rfl)) (pe_dget (hu1 hr) (pv 2) (pe_ix ix_tup (pv 3) pe_int (fun _ _ => rfl)) (fun _ _ => rfl)) (by rfl)) (pss_one (ps_expr (pe_bm PySem.F.plainAttrs_list PySem.F.slot_list_append PySem.F.type_list_append mt_append (pe_dget (hu1 hr) (pv 2) (pe_ix ix_tup (pv 3) pe_int (fun _ _ => rfl)) (fun _ _ => rfl)) (pa_cons (pe_ix ix_tup (pv 4) pe_int (fun _ _ => rfl)) pa_nil)))) pss_nil))))))
      (pss_cons (ps_for PassesOwn.never rfl (pi_list (pv 1)) (pg_name (i := 5) nd rfl (Or.inl rfl))
      (pss_one (ps_for PassesOwn.never rfl (pi_list (pv 1)) (pg_name (i := 6) nd rfl (Or.inr rfl))
      (pss_one (ps_if (pt_cmpR op_in_seq (pv 5) (pe_dget (hu1 hr) (pv 2) (pv 6) (fun _ _ => rfl)) (by rfl)) (pss_one (ps_expr (pe_bm PySem.F.plainAttrs_list PySem.F.slot_list_extend PySem.F.type_list_extend mt_extend (pe_dget (hu1 hr) (pv 2) (pv 6) (fun _ _ => rfl)) (pa_cons (pe_lc (own := [("_law_other", 7)]) (g := gName 7) (by rfl) nd (pi_list (pe_dget (hu1 hr) (pv 2) (pv 5) (fun _ _ => rfl))) (blkOk_by (own := [("_law_other", 7)]) (N := sl__law_ways) (sc := defScope s__law_ways) (by decide +kernel)) (fun _ _ _ _ _ => pg_name (i := 7) nd rfl (Or.inl rfl)) (fun _ _ _ _ _ => (pts_one (pt_cmpR (op_notInK (K := K) rfl) (pv 7) (pe_dget (hu1 hr) (pv 2) (pv 6) (fun _ _ => rfl)) (by rfl)))) (fun _ _ _ _ _ => (pv 7))) pa_nil)))) pss_nil)))))
      (pss_one (ps_ret (pv 2)))))), ?_⟩
  refine fun W hW => ?_
  have hcs : (csOf rs).map (·.1) = ts := (cs_ttl rs).trans dr.ttl
  have ndc : ((csOf rs).map (·.1)).Nodup := by rw [hcs]; exact dr.nd
  have hsm := dr.small
  have y0 : WY H (upd H W (.dK [])) W [] (fun _ => W) (fun _ => []) := ⟨same_new hW _, upd_same, hW, (fun _ h => nomatch h), (fun _ h => nomatch h), (fun _ h => nomatch h)⟩
  generalize upd H W (.dK []) = H1 at y0
  dsimp only [gName]
  refine ⟨_, rfl, R, rfl, ⟨_, (y0.base).seq hR⟩, ?_⟩
  refine for_list (K := K) (a := R) (xs := xs) (fun i σ H' => ∃ (o3 o4 : Option V) (la : Str → Addr) (f : Str → List Str), σ = [some (.ref R), some (.ref TA), some (.ref W), o3, o4, none, none, none] ∧ WY H H' W (ts.take i) la f ∧ ∀ t ∈ ts.take i, f t = dedS (nx (csOf rs) t))
    ⟨none, none, _, _, rfl, y0, (fun _ h => nomatch h)⟩ ?_ ?_ ?_
  · rintro i σ H' _ ⟨_, _, _, _, _, y, _⟩
    exact y.base.seq hR
  · rintro i v σ H' hiv ⟨o3, o4, la, f, rfl, y, hf⟩
    obtain ⟨d, md, hdi, hdv⟩ := dp_get hx hiv
    rw [List.getElem?_map] at hdi
    obtain ⟨r, hri, rfl⟩ := Option.map_eq_some_iff.mp hdi
    have mr := List.mem_of_getElem? hri
    have hti : ts[i]? = some r.1 := by rw [← dr.ttl, List.getElem?_map, hri]; rfl
    obtain ⟨a, b, zs, rfl, ha, hb, hz⟩ := row_in hdv
    have ro := dr.row r mr
    have hnx : nx (csOf rs) r.1 = r.2.2.map (·.1) := nx_of_mem (c := (r.1, r.2.2.map (·.1))) ndc (List.mem_map.mpr ⟨r, mr, rfl⟩)
    have hno := notin_take dr.nd hti
    refine ⟨(by show 0 ≤ sizeLine; decide), fun L hL => ?_⟩
    have sL := same_new hL (.lst [])
    refine ⟨_, rfl, _, rfl, a, _, _, _, rfl, rfl, seqT_same (y.base.trans sL) ha, atI_nat (show ([V.str r.1, .int r.2.1, .ref b])[0]? = some (.str r.1) from rfl), W, _, rfl, DPut.k (k := Sum.inr r.1) (sL _ _ y.w) (by rw [List.length_map]; exact szl (by rw [List.length_take]; have := dr.len; omega)), ?_⟩
    have yg := y.grow hno hL
    have etk : ts.take i ++ [r.1] = ts.take (i + 1) := by rw [List.take_succ, hti]; rfl
    rw [etk] at yg
    have mt : r.1 ∈ ts.take (i + 1) := by rw [← etk]; exact List.mem_append_right _ List.mem_cons_self
    generalize (fun u => if u = r.1 then L else la u) = la2 at yg
    generalize ey : upd (upd H' L (.lst [])) W _ = H2 at yg ⊢
    clear ey
    have at0 : atI [V.str r.1, .int r.2.1, .ref b] 0 = some (.str r.1) := atI_nat (show ([V.str r.1, .int r.2.1, .ref b])[0]? = some (.str r.1) from rfl)
    dsimp only [gName]
    refine ⟨_, rfl, a, _, _, _, rfl, rfl, seqT_same yg.base ha, atI_nat (show ([V.str r.1, .int r.2.1, .ref b])[2]? = some (.ref b) from rfl), b, rfl, ⟨_, seqT_same yg.base hb⟩, ?_⟩
    refine for_tup (K := K) (a := b) (xs := zs) (fun j σ H' => ∃ (o4 : Option V) (g : Str → List Str), σ = [some (.ref R), some (.ref TA), some (.ref W), some (.ref a), o4, none, none, none] ∧ WY H H' W (ts.take (i + 1)) la2 g ∧ g r.1 = dedS ((r.2.2.take j).map (·.1)) ∧ ∀ t ∈ ts.take i, g t = dedS (nx (csOf rs) t))
      ⟨o4, _, rfl, yg, if_pos rfl, fun t m => (if_neg fun z => hno (by rw [← z]; exact m)).trans (hf t m)⟩ ?_ ?_ ?_
    · rintro j σ H' _ ⟨_, _, _, y2, _⟩
      exact seqT_same y2.base hb
    · rintro j v σ H' hjv ⟨o4, g, rfl, y2, hg, hg2⟩
      obtain ⟨d, md, hdj, hdv⟩ := dp_get hz hjv
      rw [List.getElem?_map] at hdj
      obtain ⟨c, hcj, rfl⟩ := Option.map_eq_some_iff.mp hdj
      obtain ⟨ac, rfl, hac⟩ := call_in hdv
      have hac2 := seqT_same y2.base hac
      have ha2 := seqT_same y2.base ha
      have atc : atI [V.str c.1, .int c.2] 0 = some (.str c.1) := atI_nat (show ([V.str c.1, .int c.2])[0]? = some (.str c.1) from rfl)
      have etk2 : (r.2.2.take (j + 1)).map (·.1) = (r.2.2.take j).map (·.1) ++ [c.1] := by rw [List.take_succ, hcj, List.map_append]; rfl
      refine ⟨_, rfl, ac, _, _, _, rfl, rfl, hac2, atc, _, rfl, _, rfl, a, _, _, _, rfl, rfl, ha2, at0, W, _, rfl, y2.get mt, la2 r.1, _, rfl, .inl (SqL.of (y2.ls _ mt)), rfl, flat_strs _, _, rfl, ?_⟩
      have ein : inV (.str c.1) ((g r.1).map V.str) = decide (c.1 ∈ g r.1) := in_strs _ _
      refine ite2 (fun cc => ?_) (fun cc => ?_)
      · have hni : c.1 ∉ g r.1 := fun m => by
          have : (!inV (.str c.1) ((g r.1).map V.str)) = true := cc
          rw [ein, decide_eq_true m] at this; cases this
        refine ⟨_, rfl, _, rfl, a, _, _, _, rfl, rfl, ha2, at0, W, _, rfl, y2.get mt, .inl ⟨rfl, _, SqL.of (y2.ls _ mt)⟩, _, rfl, ac, _, _, _, rfl, rfl, hac2, atc, la2 r.1, _, _, rfl, rfl, y2.ls _ mt, ?_, ?_⟩
        · rw [List.length_map, hg]
          have := (ded_len ((r.2.2.take j).map (·.1))).1
          rw [List.length_map, List.length_take] at this
          have := ro.len
          exact szl (by omega)
        · have y3 := y2.set mt (g r.1 ++ [c.1])
          rw [List.map_append] at y3
          refine ⟨_, _, rfl, y3, ?_, fun t m => (if_neg fun z => hno (by rw [← z]; exact m)).trans (hg2 t m)⟩
          show (if r.1 = r.1 then _ else _) = _
          rw [if_pos rfl, etk2, ded_snoc, ← hg]
          unfold addS
          rw [if_neg hni]
      · have hin : c.1 ∈ g r.1 := Classical.byContradiction fun m => cc (by
          show (!inV (.str c.1) ((g r.1).map V.str)) = true
          rw [ein, decide_eq_false m]; rfl)
        refine ⟨_, _, rfl, y2, ?_, hg2⟩
        rw [etk2, ded_snoc, ← hg]
        unfold addS
        rw [if_pos hin]
    · rintro σ H' ⟨o4, g, rfl, y2, hg, hg2⟩
      have hlz : zs.length = r.2.2.length := by rw [dp_len hz, List.length_map]
      rw [hlz, List.take_length] at hg
      refine ⟨_, _, la2, g, rfl, y2, fun t m => ?_⟩
      rw [← etk] at m
      rcases List.mem_append.mp m with m | m
      · exact hg2 t m
      · rw [List.mem_singleton.mp m, hg, hnx]
  · rintro σ H' ⟨o3, o4, la, f, rfl, y, hf⟩
    have hxl : xs.length = ts.length := by rw [dp_len hx, List.length_map, dr.rl]
    rw [hxl, List.take_length] at y hf
    have hsub : ∀ (ms : List Str) t z, z ∈ passes ms (fun t => dedS (nx (csOf rs) t)) t → Rc (csOf rs) t z := fun ms => passes_sound fun t c m => .one (((ded_len _).2.2 c).mp m)
    have hnd : ∀ (ms : List Str) t, (passes ms (fun t => dedS (nx (csOf rs) t)) t).Nodup := fun ms => passes_nodup fun t => ded_nodup _
    have hlen : ∀ (ms : List Str) t, (passes ms (fun t => dedS (nx (csOf rs) t)) t).length ≤ 60 := fun ms t => Nat.le_trans (nodup_len (hnd ms t) fun z m => (hsub ms t z m).flat) hsm.1
    refine ⟨_, rfl, TA, rfl, ⟨_, y.base.seq hT⟩, ?_⟩
    refine for_list (K := K) (a := TA) (xs := ts.map V.str) (fun i σ H' => ∃ (o5 o6 o7 : Option V) (f : Str → List Str), σ = [some (.ref R), some (.ref TA), some (.ref W), o3, o4, o5, o6, o7] ∧ WY H H' W ts la f ∧ ∀ t ∈ ts, f t = passes (ts.take i) (fun t => dedS (nx (csOf rs) t)) t)
      ⟨none, none, none, _, rfl, y, hf⟩ ?_ ?_ ?_
    · rintro i σ H' _ ⟨_, _, _, _, _, y, _⟩
      exact y.base.seq hT
    · rintro i v σ H1 hiv ⟨o5, o6, o7, f, rfl, y1, hf1⟩
      rw [List.getElem?_map] at hiv
      obtain ⟨m, hmi, rfl⟩ := Option.map_eq_some_iff.mp hiv
      have mm := List.mem_of_getElem? hmi
      have hps : passes (ts.take (i + 1)) (fun t => dedS (nx (csOf rs) t)) = pass m (passes (ts.take i) (fun t => dedS (nx (csOf rs) t))) := by rw [List.take_succ, hmi]; exact passes_snoc _ _ _
      have hlen0 := hlen (ts.take i)
      have hlen1 := hlen (ts.take (i + 1))
      have hself := pass_self m (passes (ts.take i) (fun t => dedS (nx (csOf rs) t)))
      rw [hps] at hlen1 ⊢
      generalize passes (ts.take i) (fun t => dedS (nx (csOf rs) t)) = g at hf1 hlen0 hlen1 hself ⊢
      dsimp only [gName]
      refine ⟨_, rfl, TA, rfl, ⟨_, y1.base.seq hT⟩, ?_⟩
      refine for_list (K := K) (a := TA) (xs := ts.map V.str) (fun j σ H' => ∃ (o6 o7 : Option V) (f : Str → List Str), σ = [some (.ref R), some (.ref TA), some (.ref W), o3, o4, some (.str m), o6, o7] ∧ WY H H' W ts la f ∧ (∀ t ∈ ts.take j, f t = pass m g t) ∧ ∀ t ∈ ts, t ∉ ts.take j → f t = g t)
        ⟨o6, o7, f, rfl, y1, (fun _ h => nomatch h), fun t m _ => hf1 t m⟩ ?_ ?_ ?_
      · rintro j σ H' _ ⟨_, _, _, _, y, _⟩
        exact y.base.seq hT
      · rintro j v σ H2 hjv ⟨o6, o7, f, rfl, y2, hfa, hfb⟩
        rw [List.getElem?_map] at hjv
        obtain ⟨o, hoj, rfl⟩ := Option.map_eq_some_iff.mp hjv
        have mo := List.mem_of_getElem? hoj
        have hno := notin_take dr.nd hoj
        have etk : ts.take (j + 1) = ts.take j ++ [o] := by rw [List.take_succ, hoj]; rfl
        have fo := hfb o mo hno
        have fm : f m = g m := by
          by_cases q : m ∈ ts.take j
          · rw [hfa m q, hself]
          · exact hfb m mm q
        dsimp only [gName]
        refine ⟨_, rfl, _, rfl, _, rfl, W, _, rfl, y2.get mo, la o, _, rfl, .inl (SqL.of (y2.ls _ mo)), rfl, flat_strs _, _, rfl, ?_⟩
        have ein : inV (.str m) ((f o).map V.str) = decide (m ∈ f o) := in_strs _ _
        refine ite2 (fun cc => ?_) (fun cc => ?_)
        · have hin : m ∈ g o := by
            have : inV (.str m) ((f o).map V.str) = true := cc
            rw [ein, fo] at this; exact of_decide_eq_true this
          refine ⟨_, rfl, _, rfl, W, _, rfl, y2.get mo, .inl ⟨rfl, _, SqL.of (y2.ls _ mo)⟩, _, rfl, _, rfl, W, _, rfl, y2.get mm, la m, rfl, ⟨_, SqL.of (y2.ls _ mm)⟩, fun D hD => ?_⟩
          have lfm : (f m).length ≤ 60 := by rw [fm]; exact hlen0 m
          refine lc_list (K := K) (a := la m) (xs := (f m).map V.str) (fun k H' => Same H2 H' ∧ H' D = some (.lst ((((f m).take k).filter fun z => !decide (z ∈ f o)).map V.str))) ?_ ?_ ?_ ?_
          · exact ⟨same_new hD _, upd_same⟩
          · rintro k H' _ ⟨e, _⟩
            exact SqL.of (e _ _ (y2.ls _ mm))
          · rintro k v H' hkv ⟨e, eD⟩
            rw [List.getElem?_map] at hkv
            obtain ⟨z, hz, rfl⟩ := Option.map_eq_some_iff.mp hkv
            have hkl : k < (f m).length := (List.getElem?_eq_some_iff.mp hz).1
            have y3 := y2.ext e
            refine ⟨rfl, ?_⟩
            refine ⟨_, rfl, _, rfl, _, rfl, W, _, rfl, y3.get mo, la o, _, rfl, .inl (SqL.of (y3.ls _ mo)), rfl, flat_strs _, _, rfl, ?_⟩
            have ein2 : inV (.str z) ((f o).map V.str) = decide (z ∈ f o) := in_strs _ _
            have etk2 : (f m).take (k + 1) = (f m).take k ++ [z] := by rw [List.take_succ, hz]; rfl
            have lfl := List.length_filter_le (fun z => !decide (z ∈ f o)) ((f m).take k)
            rw [List.length_take] at lfl
            refine ite2 (fun c2 => ?_) (fun c2 => ?_)
            · have c2' : (!decide (z ∈ f o)) = true := by rw [← ein2]; exact c2
              refine ⟨_, rfl, _, eD, by rw [List.length_map]; exact szl (by omega), same_mut e hD, ?_⟩
              rw [upd_same, etk2, List.filter_append, List.map_append, List.filter_cons_of_pos (by exact c2')]; rfl
            · have c2' : ¬ (!decide (z ∈ f o)) = true := by rw [← ein2]; exact c2
              refine ⟨e, ?_⟩
              rw [eD, etk2, List.filter_append, List.map_append, List.filter_cons_of_neg (by exact c2')]
              simp
          · rintro H' ⟨e, eD⟩
            rw [List.length_map, List.take_length] at eD
            have y3 := y2.ext e
            have epass : f o ++ (f m).filter (fun z => !decide (z ∈ f o)) = pass m g o := by
              unfold pass
              rw [if_pos hin, fo, fm]
            refine ⟨la o, D, _, _, rfl, rfl, y3.ls _ mo, eD, ?_, ?_⟩
            · have l1 := hlen1 o
              rw [← epass, List.length_append] at l1
              rw [List.length_map, List.length_map]
              exact Nat.le_of_lt (szl (by omega))
            · have y4 := y3.set mo (f o ++ (f m).filter (fun z => !decide (z ∈ f o)))
              rw [List.map_append] at y4
              refine ⟨_, _, _, rfl, y4, fun t q => ?_, fun t q n => ?_⟩
              · rw [etk] at q
                show (if t = o then _ else f t) = _
                rcases List.mem_append.mp q with q | q
                · rw [if_neg fun z => hno (by rw [← z]; exact q)]
                  exact hfa t q
                · rw [List.mem_singleton.mp q, if_pos rfl, epass]
              · have n1 : t ≠ o := fun z => n (by rw [etk, z]; exact List.mem_append_right _ List.mem_cons_self)
                show (if t = o then _ else f t) = _
                rw [if_neg n1]
                exact hfb t q fun z => n (by rw [etk]; exact List.mem_append_left _ z)
        · have hni : m ∉ g o := fun q => cc (by
            show inV (.str m) ((f o).map V.str) = true
            rw [ein, fo, decide_eq_true q])
          refine ⟨_, _, f, rfl, y2, fun t q => ?_, fun t q n => hfb t q fun z => n (by rw [etk]; exact List.mem_append_left _ z)⟩
          rw [etk] at q
          rcases List.mem_append.mp q with q | q
          · exact hfa t q
          · rw [List.mem_singleton.mp q, fo]
            unfold pass
            rw [if_neg hni]
      · rintro σ H2 ⟨o6, o7, f, rfl, y2, hfa, hfb⟩
        rw [List.length_map, List.take_length] at hfa
        exact ⟨_, _, _, f, rfl, y2, fun t q => hfa t q⟩
    · rintro σ H2 ⟨o5, o6, o7, f, rfl, y2, hf2⟩
      rw [List.length_map, List.take_length] at hf2
      refine ⟨_, rfl, k W H2 la f y2 fun t q => ?_⟩
      rw [hf2 t q]
      refine ⟨hnd ts t, fun z => passes_rc (fun t c => (ded_len _).2.2 c) (fun t c q => ?_) t z⟩
      obtain ⟨p, mp, rfl, _⟩ := nx_mem q
      rw [← hcs]
      exact List.mem_map.mpr ⟨p, mp, rfl⟩
end
end Lk

set_option Elab.async false
set_option linter.all false
set_option maxRecDepth 100000
set_option maxHeartbeats 4000000
set_option pp.maxSteps 1500
namespace Lk
open PySem PySem.Spec PyProof.Rows L2
def rNotInP (K : PySem.W.Frag) : R2 := fun x y H Q => ∃ d ds, Dp K H x d ∧ Dp K H y (.list ds) ∧ PyData.plainAll ds = true ∧ d.plain = true ∧ d.depth ≤ 60 ∧ Q (.bl (!ds.any fun z => PyData.eqv z d)) H
theorem op_notInP {X : Cx} (hu : X.A.units + 64 < cLine) : OpR X (compareOp .NotIn) (rNotInP X.K) := by
  intro pins s σ H x y v u Q I rx ry h
  obtain ⟨d, ds, hd, he, sd, se, dd, q⟩ := h
  obtain ⟨as, r1⟩ := Dp.reads I d x v hd rx
  obtain ⟨bs, r2⟩ := Dp.reads I (.list ds) y u he ry
  exact SeqAt.notIn_list_data r2 r1 sd se (by omega) ⟨.bl _, H, I, rfl, q⟩
theorem strs_in {K : PySem.W.Frag} {H : Hp} : ∀ {r : List Str} {vs : List V}, DpAll K H vs (r.map .str) → vs = r.map V.str
  | [], _, .nil => rfl
  | z :: r, _, .cons h t => by
    cases h
    rw [strs_in t]; rfl
theorem tupS_in {K : PySem.W.Frag} {H : Hp} {x : V} {r : List Str} (h : Dp K H x (.tuple (r.map .str))) (ne : r ≠ []) : TupS K H x r := by
  cases h with
  | tup ha hx =>
    have := strs_in hx
    subst this
    exact ⟨_, rfl, ha, ne⟩
theorem eqv_strs : ∀ r s : List Str, PyData.eqvAll (r.map .str) (s.map .str) = decide (r = s)
  | [], [] => rfl
  | [], y :: s => rfl
  | x :: r, [] => rfl
  | x :: r, y :: s => by
    show ((x == y) && PyData.eqvAll (r.map .str) (s.map .str)) = _
    rw [eqv_strs r s, Bool.eq_iff_iff, Bool.and_eq_true, beq_iff_eq, decide_eq_true_iff, decide_eq_true_iff]
    simp
theorem any_tups (l : List (List Str)) (r : List Str) : ((tupsD l).any fun z => PyData.eqv z (.tuple (r.map .str))) = decide (r ∈ l) := by
  induction l with
  | nil => rfl
  | cons a l ih =>
    show (PyData.eqvAll (a.map .str) (r.map .str) || (tupsD l).any _) = _
    rw [ih, eqv_strs, Bool.eq_iff_iff, Bool.or_eq_true, decide_eq_true_iff, decide_eq_true_iff, decide_eq_true_iff, List.mem_cons]
    exact ⟨fun h => h.imp Eq.symm id, fun h => h.imp Eq.symm id⟩
theorem plain_strs (r : List Str) : PyData.plainAll (r.map .str) = true := by
  induction r with
  | nil => rfl
  | cons a r ih => show (true && PyData.plainAll (r.map .str)) = true; rw [ih]; rfl
theorem plain_tups (l : List (List Str)) : PyData.plainAll (tupsD l) = true := by
  induction l with
  | nil => rfl
  | cons a l ih => show (PyData.plainAll (a.map .str) && PyData.plainAll (tupsD l)) = true; rw [ih, plain_strs]; rfl
theorem depth_strs (r : List Str) : PyData.depthAll (r.map .str) = 0 := by
  induction r with
  | nil => rfl
  | cons a r ih => simp only [List.map_cons, PyData.depthAll, PyData.depth, ih]; rfl
theorem depth_tup (r : List Str) : (PyData.tuple (r.map .str)).depth ≤ 60 := by
  simp only [PyData.depth, depth_strs]; omega
theorem dp_perm {K : PySem.W.Frag} {H : Hp} {α : Type} {f : α → PyData} : ∀ {xs ys : List V}, ys.Perm xs → ∀ {l : List α}, DpAll K H xs (l.map f) → ∃ m : List α, m.Perm l ∧ DpAll K H ys (m.map f) := by
  intro xs ys p
  induction p with
  | nil => exact fun {l} h => ⟨l, .refl _, h⟩
  | cons x _ ih =>
    intro l h
    cases l with
    | nil => cases h
    | cons a l =>
      cases h with
      | cons h t =>
        obtain ⟨m, p, hm⟩ := ih t
        exact ⟨a :: m, p.cons a, .cons h hm⟩
  | swap x y zs =>
    intro l h
    match l, h with
    | a :: b :: l, .cons h1 (.cons h2 t) => exact ⟨b :: a :: l, .swap a b l, .cons h2 (.cons h1 t)⟩
    | [a], .cons _ t => cases t
    | [], h => cases h
  | trans _ _ ih1 ih2 =>
    intro l h
    obtain ⟨m, p, hm⟩ := ih2 h
    obtain ⟨n, q, hn⟩ := ih1 hm
    exact ⟨n, q.trans p, hn⟩
theorem dp_ith {K : PySem.W.Frag} {H : Hp} {α : Type} {f : α → PyData} : ∀ {xs : List V} {l : List α}, DpAll K H xs (l.map f) → ∀ {i : Nat} (h1 : i < xs.length) (h2 : i < l.length), Dp K H xs[i] (f l[i])
  | [], [], _, _, h, _ => absurd h (by simp)
  | x :: xs, a :: l, .cons h t, 0, _, _ => h
  | x :: xs, a :: l, .cons h t, i + 1, h1, h2 => dp_ith t (by simpa using h1) (by simpa using h2)
/-- rings told in the order of their heads are the rings -/
theorem rings_sorted {cs : Cs} {S : List Str} {ss : List (List Str)} (hS : S.Pairwise fun a b => leS a b = true) (hn : S.Nodup) (nd : ss.Nodup) (hm : ∀ r, r ∈ ss ↔ r ∈ ringsL cs S) (ho : ss.Pairwise fun a b => leS (a.headD "") (b.headD "") = true) : ss = ringsL cs S := by
  have key : ∀ r ∈ ss, ringL cs S (r.headD "") = r := fun r m => by
    obtain ⟨t, ht, hr, rfl⟩ := rings_mem.mp ((hm r).mp m)
    have hself : t ∈ ringL cs S t := ring_mem.mpr ⟨ht, hr, hr⟩
    cases e : ringL cs S t with
    | nil => rw [e] at hself; cases hself
    | cons u v =>
      have hu : u ∈ ringL cs S t := by rw [e]; exact List.mem_cons_self
      show ringL cs S u = _
      rw [ring_same hu, e]
  have e1 : ss = (ss.map fun r => r.headD "").map (ringL cs S) := by
    rw [List.map_map]
    conv => lhs; rw [← List.map_id ss]
    exact List.map_congr_left fun r m => (key r m).symm
  have e2 : (ss.map fun r => r.headD "") = S.filter fun t => decide ((ringL cs S t).head? = some t) := by
    refine eq_of_perm (r := fun a b => leS a b = true) (fun _ _ => leS_anti) ?_ (List.pairwise_map.mpr ho) (hS.sublist List.filter_sublist)
    refine (List.perm_ext_iff_of_nodup ?_ (hn.filter _)).mpr fun t => ?_
    · refine List.pairwise_map.mpr ((List.Pairwise.and_mem.mp nd).imp ?_)
      rintro a b ⟨ha, hb, ne⟩ e
      exact ne (by rw [← key a ha, ← key b hb, e])
    · rw [List.mem_map, List.mem_filter, decide_eq_true_iff]
      constructor
      · rintro ⟨r, m, rfl⟩
        obtain ⟨t, ht, hr, rfl⟩ := rings_mem.mp ((hm r).mp m)
        have hself : t ∈ ringL cs S t := ring_mem.mpr ⟨ht, hr, hr⟩
        cases e : ringL cs S t with
        | nil => rw [e] at hself; cases hself
        | cons u v =>
          have hu : u ∈ ringL cs S t := by rw [e]; exact List.mem_cons_self
          refine ⟨(ring_mem.mp hu).1, ?_⟩
          show (ringL cs S u).head? = some u
          rw [ring_same hu, e]; rfl
      · rintro ⟨ht, hh⟩
        have h3 : t ∈ ringL cs S t := List.mem_of_mem_head? hh
        refine ⟨ringL cs S t, (hm _).mpr (rings_mem.mpr ⟨t, ht, (ring_mem.mp h3).2.1, rfl⟩), ?_⟩
        cases e : ringL cs S t with
        | nil => rw [e] at hh; cases hh
        | cons u v => rw [e] at hh; exact Option.some.inj hh
  rw [e1, e2]; rfl
def spRingsL (K : PySem.W.Frag) : Sp := fun vs H Q _ => ∃ (TA W : Addr) (HB : Hp) (ts : List Str) (la : Str → Addr) (f : Str → List Str) (cs : Cs), vs = [.ref TA, .ref W] ∧ SqL K H TA (ts.map V.str) ∧ WY HB H W ts la f ∧ (∀ t ∈ ts, (f t).Nodup ∧ ∀ z, z ∈ f t ↔ Rc cs t z) ∧ cs.map (·.1) = ts ∧ ts.Nodup ∧ ts.length ≤ 60 ∧
  ∀ (v : V) (H' : Hp), Same H H' → Dp K H' v (ringsD cs) → Q v H'
section
variable {P : Program} {w : World} {K : PySem.W.Frag} {mg : Str → Option Value} {base : Heap}
theorem ok_law_rings (T : Txt K mg) : FnOk P w K mg base CX0 1 T.f__law_rings T.d__law_rings ["_law_titles", "_law_ways_here"] (spRingsL K) := by
  have nd := sc__law_rings.nd
  refine T.F__law_rings.ok sc__law_rings (fun vs H Q E h => ?_) (fun cdv A outer s H vs Q E hr h => ?_)
  · obtain ⟨TA, W, HB, ts, la, f, cs, rfl, _⟩ := h
    rfl
  obtain ⟨TA, W, HB, ts, la, f, cs, rfl, hT, wy, hf, hcs, ndt, h60, k⟩ := h
  refine ⟨_, (pss_cons (ps_set (i := 2) nd rfl (Or.inl rfl) (pe_lst pa_nil))
      (pss_cons (ps_for PassesOwn.never rfl (pi_list (pv 0)) (pg_name (i := 3) nd rfl (Or.inr rfl))
      (pss_one (ps_if (pt_cmpR op_in_seq (pv 3) (pe_dget (hu1 hr) (pv 1) (pv 3) (fun _ _ => rfl)) (by rfl)) (pss_cons (ps_set (i := 4) nd rfl (Or.inl rfl) (pe_callTy call_tuple_of (by rfl) T.z_tuple (by decide +kernel) (pa_cons (pe_callB cr_sortedS (by rfl) T.z_sorted (by decide +kernel) (pa_cons (pe_lc (own := [("_law_other", 5)]) (g := gName 5) (by rfl) nd (pi_list (pv 0)) (blkOk_by (own := [("_law_other", 5)]) (N := sl__law_rings) (sc := defScope s__law_rings) (by decide +kernel)) (fun _ _ _ _ _ => pg_name (i := 5) nd rfl (Or.inl rfl)) (fun _ _ _ _ _ => (pts_one (PW.pt (pw_and (pt_cmpR (op_inK (K := K) rfl) (pv 5) (pe_dget (hu1 hr) (pv 1) (pv 3) (fun _ _ => rfl)) (by rfl)) (pw_and1 (pt_cmpR (op_inK (K := K) rfl) (pv 3) (pe_dget (hu1 hr) (pv 1) (pv 5) (fun _ _ => rfl)) (by rfl))))))) (fun _ _ _ _ _ => (pv 5))) pa_nil)) pa_nil)))
      (pss_one (ps_if (pt_cmpR (op_notInP (by have := hr.un; exact hr.units)) (pv 4) (pv 2) (by rfl)) (pss_one (ps_expr (pe_bm PySem.F.plainAttrs_list PySem.F.slot_list_append PySem.F.type_list_append mt_append (pv 2) (pa_cons (pv 4) pa_nil)))) pss_nil))) pss_nil)))
      (pss_one (ps_ret (pe_callTy call_tuple_of (by rfl) T.z_tuple (by decide +kernel) (pa_cons (pe_callB cr_sortTS (by rfl) T.z_sorted (by decide +kernel) (pa_cons (pv 2) pa_nil)) pa_nil)))))), ?_⟩
  refine ⟨(by show 0 ≤ sizeLine; decide), fun G hG => ?_⟩
  have s1 := same_new hG (.lst [])
  have hG1 : (upd H G (.lst [])) G = some (.lst []) := upd_same
  generalize upd H G (.lst []) = H1 at s1 hG1 ⊢
  dsimp only [gName]
  have hSle : (srt ts).Pairwise fun a b => leS a b = true := srt_le ts
  have hSn : (srt ts).Nodup := srt_nodup ndt
  refine ⟨_, rfl, TA, rfl, ⟨_, s1.seq hT⟩, ?_⟩
  refine for_list (K := K) (a := TA) (xs := ts.map V.str) (fun i σ H' => ∃ (o3 o4 o5 : Option V) (vs : List V) (acc : List (List Str)), σ = [some (.ref TA), some (.ref W), some (.ref G), o3, o4, o5] ∧ Same H H' ∧ H' G = some (.lst vs) ∧ DpAll K (del H' G) vs (tupsD acc) ∧ acc.length ≤ i ∧ acc.Nodup ∧ ∀ r, r ∈ acc ↔ ∃ t ∈ ts.take i, Rc cs t t ∧ r = ringL cs (srt ts) t)
    ⟨none, none, none, [], [], rfl, s1, hG1, .nil, Nat.le_refl _, List.nodup_nil, fun r => ⟨fun h => (nomatch h), fun ⟨_, h, _⟩ => (nomatch h)⟩⟩ ?_ ?_ ?_
  · rintro i σ H' _ ⟨_, _, _, _, _, _, e, _⟩
    exact e.seq hT
  · rintro i v σ H2 hiv ⟨o3, o4, o5, vs, acc, rfl, e2, hG2, hv2, la2, nda, hacc⟩
    rw [List.getElem?_map] at hiv
    obtain ⟨t, hti, rfl⟩ := Option.map_eq_some_iff.mp hiv
    have mt := List.mem_of_getElem? hti
    have hil : i < ts.length := (List.getElem?_eq_some_iff.mp hti).1
    have etk : ts.take (i + 1) = ts.take i ++ [t] := by rw [List.take_succ, hti]; rfl
    have y2 := wy.ext e2
    dsimp only [gName]
    refine ⟨_, rfl, _, rfl, _, rfl, W, _, rfl, y2.get mt, la t, _, rfl, .inl (SqL.of (y2.ls _ mt)), rfl, flat_strs _, _, rfl, ?_⟩
    have ein : inV (.str t) ((f t).map V.str) = decide (t ∈ f t) := in_strs _ _
    refine ite2 (fun cc => ?_) (fun cc => ?_)
    · have hrc : Rc cs t t := ((hf t mt).2 t).mp (of_decide_eq_true (by rw [← ein]; exact cc))
      refine ⟨_, rfl, TA, rfl, ⟨_, e2.seq hT⟩, fun D hD => ?_⟩
      refine lc_list (K := K) (a := TA) (xs := ts.map V.str) (fun j H' => Same H2 H' ∧ H' D = some (.lst (((ts.take j).filter fun o => rc cs t o && rc cs o t).map V.str))) ?_ ?_ ?_ ?_
      · exact ⟨same_new hD _, upd_same⟩
      · rintro j H' _ ⟨e, _⟩
        exact (e2.trans e).seq hT
      · rintro j v H' hjv ⟨e, eD⟩
        rw [List.getElem?_map] at hjv
        obtain ⟨o, hoj, rfl⟩ := Option.map_eq_some_iff.mp hjv
        have mo := List.mem_of_getElem? hoj
        have y3 := y2.ext e
        have etk2 : ts.take (j + 1) = ts.take j ++ [o] := by rw [List.take_succ, hoj]; rfl
        have hjl : j < ts.length := (List.getElem?_eq_some_iff.mp hoj).1
        have e1 : inV (.str o) ((f t).map V.str) = rc cs t o := by
          rw [in_strs, Bool.eq_iff_iff, decide_eq_true_iff, rc_iff]; exact (hf t mt).2 o
        have e4 : inV (.str t) ((f o).map V.str) = rc cs o t := by
          rw [in_strs, Bool.eq_iff_iff, decide_eq_true_iff, rc_iff]; exact (hf o mo).2 t
        have lfl := List.length_filter_le (fun o => rc cs t o && rc cs o t) (ts.take j)
        rw [List.length_take] at lfl
        have yes : (rc cs t o && rc cs o t) = true → H' D = some (.lst (((ts.take j).filter fun o => rc cs t o && rc cs o t).map V.str)) ∧ (((ts.take j).filter fun o => rc cs t o && rc cs o t).map V.str).length < sizeLine ∧ Same H2 (upd H' D (.lst (((ts.take j).filter fun o => rc cs t o && rc cs o t).map V.str ++ [V.str o]))) ∧ (upd H' D (.lst (((ts.take j).filter fun o => rc cs t o && rc cs o t).map V.str ++ [V.str o]))) D = some (.lst (((ts.take (j + 1)).filter fun o => rc cs t o && rc cs o t).map V.str)) := fun c => by
          refine ⟨eD, by rw [List.length_map]; exact szl (by omega), same_mut e hD, ?_⟩
          rw [upd_same, etk2, List.filter_append, List.map_append, List.filter_cons_of_pos (by exact c)]; rfl
        have no : (rc cs t o && rc cs o t) = false → Same H2 H' ∧ H' D = some (.lst (((ts.take (j + 1)).filter fun o => rc cs t o && rc cs o t).map V.str)) := fun c => by
          refine ⟨e, ?_⟩
          rw [eD, etk2, List.filter_append, List.map_append, List.filter_cons_of_neg (by rw [c]; exact Bool.false_ne_true)]
          simp
        refine ⟨rfl, ?_⟩
        refine ⟨_, rfl, _, rfl, _, rfl, W, _, rfl, y3.get mt, la t, _, rfl, .inl (SqL.of (y3.ls _ mt)), rfl, flat_strs _, _, rfl, ?_⟩
        refine ite2 (fun c2 => ?_) (fun c2 => ?_)
        · have c2' : rc cs t o = true := by rw [← e1]; exact c2
          refine ⟨_, rfl, _, rfl, _, rfl, W, _, rfl, y3.get mo, la o, _, rfl, .inl (SqL.of (y3.ls _ mo)), rfl, flat_strs _, _, rfl, ?_⟩
          refine ite2 (fun c3 => ?_) (fun c3 => ?_)
          · have c3' : rc cs o t = true := by rw [← e4]; exact c3
            obtain ⟨q1, q2, q3⟩ := yes (by rw [c2', c3']; rfl)
            exact ⟨_, rfl, _, q1, q2, q3⟩
          · have c3' : rc cs o t = false := by rw [← e4]; exact Bool.eq_false_iff.mpr c3
            exact no (by rw [c3', Bool.and_false])
        · have c2' : rc cs t o = false := by rw [← e1]; exact Bool.eq_false_iff.mpr c2
          exact iteF (no (by rw [c2', Bool.false_and]))
      · rintro H3 ⟨e3, eD⟩
        rw [List.length_map, List.take_length] at eD
        have lfl := List.length_filter_le (fun o => rc cs t o && rc cs o t) ts
        refine ⟨D, _, rfl, SqL.of eD, by omega, fun ys p hp hso hn => ?_⟩
        rw [srt_eq hp hso, ← filter_srt, show (srt ts).filter (fun o => rc cs t o && rc cs o t) = ringL cs (srt ts) t from rfl]
        have s4 := same_new hn (.lst ((ringL cs (srt ts) t).map V.str))
        refine ⟨p, _, rfl, .inl ⟨SqL.of upd_same, fun q hq => ?_⟩⟩
        have s5 := same_new hq (.tup ((ringL cs (srt ts) t).map V.str))
        have hq5 : (upd (upd H3 p (.lst ((ringL cs (srt ts) t).map V.str))) q (.tup ((ringL cs (srt ts) t).map V.str))) q = some (.tup ((ringL cs (srt ts) t).map V.str)) := upd_same
        have s25 := (e3.trans s4).trans s5
        generalize upd (upd H3 p (.lst ((ringL cs (srt ts) t).map V.str))) q (.tup ((ringL cs (srt ts) t).map V.str)) = H5 at s25 hq5 ⊢
        clear s4 s5 hq hn hp hso e3 eD
        have hG5 := s25 _ _ hG2
        have hv5 := dpAll_same (same_del G s25) hv2
        have hmr : ∀ r, (r ∈ acc ∨ r = ringL cs (srt ts) t) ↔ ∃ u ∈ ts.take (i + 1), Rc cs u u ∧ r = ringL cs (srt ts) u := fun r => by
          rw [hacc, etk]
          constructor
          · rintro (⟨u, m, h⟩ | rfl)
            · exact ⟨u, List.mem_append_left _ m, h⟩
            · exact ⟨t, List.mem_append_right _ List.mem_cons_self, hrc, rfl⟩
          · rintro ⟨u, m, h⟩
            rcases List.mem_append.mp m with m | m
            · exact .inl ⟨u, m, h⟩
            · rw [List.mem_singleton.mp m] at h
              exact .inr h.2
        have nqG : q ≠ G := fun z => by rw [z, hG5] at hq5; cases hq5
        have hdq : Dp K (del H5 G) (.ref q) (.tuple ((ringL cs (srt ts) t).map .str)) := .tup (SqT.of (by rw [del_ne nqG]; exact hq5)) (dpAll_str _)
        refine ⟨_, rfl, _, rfl, .tuple ((ringL cs (srt ts) t).map .str), tupsD acc, dp_same (del_le _ G) hdq, .lst (SqL.of hG5) (dpAll_same (del_le _ G) hv5), plain_tups _, plain_strs _, depth_tup _, _, rfl, ?_⟩
        rw [any_tups]
        have lvs : vs.length = acc.length := by rw [dp_len hv2]; unfold tupsD; rw [List.length_map]
        refine ite2 (fun c => ?_) (fun c => ?_)
        · have hni : ringL cs (srt ts) t ∉ acc := fun m => by rw [decide_eq_true m] at c; cases c
          refine ⟨_, rfl, .inl ⟨rfl, _, SqL.of hG5⟩, _, rfl, G, vs, _, rfl, rfl, hG5, szl (by omega), ?_⟩
          refine ⟨_, _, _, _, acc ++ [ringL cs (srt ts) t], rfl, same_mut (e2.trans s25) hG, upd_same, ?_, ?_, ?_, fun r => ?_⟩
          · rw [del_upd]
            unfold tupsD at hv5 ⊢
            rw [List.map_append]
            exact dpAll_app hv5 hdq
          · rw [List.length_append]; show _ + 1 ≤ _; omega
          · exact List.nodup_append.mpr ⟨nda, by simp, fun a ha b hb z => hni (by rw [← List.mem_singleton.mp hb, ← z]; exact ha)⟩
          · rw [List.mem_append, List.mem_singleton]; exact hmr r
        · have hin : ringL cs (srt ts) t ∈ acc := Classical.byContradiction fun m => c (by rw [decide_eq_false m]; rfl)
          refine ⟨_, _, _, vs, acc, rfl, e2.trans s25, hG5, hv5, by omega, nda, fun r => ?_⟩
          rw [← hmr r]
          exact ⟨.inl, fun z => z.elim id fun z => by rw [z]; exact hin⟩
    · have hno : ¬ Rc cs t t := fun z => cc (by
        show inV (.str t) ((f t).map V.str) = true
        rw [ein]; exact decide_eq_true (((hf t mt).2 t).mpr z))
      refine ⟨_, _, _, vs, acc, rfl, e2, hG2, hv2, by omega, nda, fun r => ?_⟩
      rw [hacc, etk]
      constructor
      · rintro ⟨u, m, h⟩
        exact ⟨u, List.mem_append_left _ m, h⟩
      · rintro ⟨u, m, h⟩
        rcases List.mem_append.mp m with m | m
        · exact ⟨u, m, h⟩
        · rw [List.mem_singleton.mp m] at h
          exact absurd h.1 hno
  · rintro σ H2 ⟨o3, o4, o5, vs, acc, rfl, e2, hG2, hv2, la2, nda, hacc⟩
    rw [List.length_map, List.take_length] at hacc
    rw [List.length_map] at la2
    have hvl := dpAll_same (del_le H2 G) hv2
    have hne : ∀ r ∈ acc, r ≠ [] := fun r m z => by
      obtain ⟨t, mt, hrc, e⟩ := (hacc r).mp m
      have : t ∈ ringL cs (srt ts) t := ring_mem.mpr ⟨srt_mem.mpr mt, hrc, hrc⟩
      rw [← e, z] at this; cases this
    refine ⟨_, rfl, G, vs, rfl, SqL.of hG2, fun x mx => ?_, fun ys p hp hso hn => ?_⟩
    · obtain ⟨i, hi, ex⟩ := List.getElem_of_mem mx
      have hia : i < acc.length := by have := dp_len hvl; unfold tupsD at this; rw [List.length_map] at this; omega
      have h3 := dp_ith (f := fun r : List Str => .tuple (r.map .str)) hvl hi hia
      rw [ex] at h3
      exact ⟨_, tupS_in h3 (hne _ (List.getElem_mem hia))⟩
    obtain ⟨ss, hss, hys⟩ := dp_perm (f := fun r : List Str => .tuple (r.map .str)) hp hvl
    have lys : ys.length = ss.length := by have := dp_len hys; rw [List.length_map] at this; exact this
    have hsorted : ss.Pairwise fun a b => leS (a.headD "") (b.headD "") = true := by
      rw [List.pairwise_iff_getElem] at hso ⊢
      intro i j hi hj hij
      exact hso i j (by omega) (by omega) hij _ _ (tupS_in (dp_ith (f := fun r : List Str => .tuple (r.map .str)) hys (by omega) hi) (hne _ (hss.mem_iff.mp (List.getElem_mem hi)))) (tupS_in (dp_ith (f := fun r : List Str => .tuple (r.map .str)) hys (by omega) hj) (hne _ (hss.mem_iff.mp (List.getElem_mem hj))))
    have ess : ss = ringsL cs (srt ts) := rings_sorted hSle hSn (hss.nodup_iff.mpr nda) (fun r => by
      rw [hss.mem_iff, hacc, rings_mem]
      constructor
      · rintro ⟨t, m, h⟩; exact ⟨t, srt_mem.mpr m, h⟩
      · rintro ⟨t, m, h⟩; exact ⟨t, srt_mem.mp m, h⟩) hsorted
    have s3 := same_new hn (.lst ys)
    refine ⟨p, _, rfl, .inl ⟨SqL.of upd_same, fun q hq => ?_⟩⟩
    have s4 := same_new hq (.tup ys)
    refine k _ _ ((e2.trans s3).trans s4) (.tup (SqT.of upd_same) ?_)
    have h5 := dpAll_same (s3.trans s4) hys
    rw [ess] at h5
    rw [hcs]
    exact h5
end
end Lk

set_option Elab.async false
set_option linter.all false
set_option maxRecDepth 100000
set_option maxHeartbeats 4000000
namespace Lk
open PySem PySem.Spec PyProof.Rows L2
/-! ### data that repr tells in few signs -/
mutual
def smB : PyData → Bool
  | .int i => decide (i.natAbs < 10 ^ 41)
  | .str s => decide ((reprText s).length ≤ 20)
  | .list ds => smBs ds
  | .tuple ds => smBs ds
  | .none => true
  | .bool _ => true
  | .dict _ => false
def smBs : List PyData → Bool
  | [] => true
  | d :: ds => smB d && smBs ds
end
mutual
def nodes : PyData → Nat
  | .list ds => 1 + nodesL ds
  | .tuple ds => 1 + nodesL ds
  | _ => 1
def nodesL : List PyData → Nat
  | [] => 0
  | d :: ds => nodes d + nodesL ds
end
theorem wide_log {i : Int} (h : i.natAbs < 10 ^ 41) : i.natAbs.log2 < 1920 := by
  by_cases c : i.natAbs = 0
  · rw [c]; decide
  · have h2 : (10 : Nat) ^ 41 < 2 ^ 137 := by decide
    have := (Nat.log2_lt c).mpr (Nat.lt_trans h h2)
    omega
theorem list_text : ∀ ts : List Str, (listText ts).length ≤ piled ts + 2
  | [] => by decide +kernel
  | t :: ts => by
    have e : listText (t :: ts) = textFrom 1 (("[" : Str) ++ (if 0 > 0 then ", " else "" : String) ++ t) ts ++ "]" := rfl
    have h := textFrom_length_pos ts 1 (("[" : Str) ++ (if 0 > 0 then ", " else "" : String) ++ t) (Nat.succ_pos _)
    have l1 : (("[" : Str) ++ (if 0 > 0 then ", " else "" : String) ++ t).length = 1 + t.length := by
      rw [Str.length_append, Str.length_append]
      rfl
    have l2 : (("]" : Str)).length = 1 := rfl
    rw [e, Str.length_append, h, l1, piled_cons, l2]
    omega
mutual
theorem few_signs : ∀ d : PyData, smB d = true → d.showable = true ∧ d.hasDict = false ∧ d.shown.length + 2 ≤ 48 * nodes d
  | .int i, h => by
    have h1 : i.natAbs < 10 ^ 41 := of_decide_eq_true h
    refine ⟨decide_eq_true (wide_log h1), rfl, ?_⟩
    show (Str.ofString (toString i)).length + 2 ≤ 48 * 1
    rw [PySem.ofString_length]
    have := int_text_length_le10 (a := i) (k := 41) (by decide) h1
    omega
  | .str s, h => by
    have := of_decide_eq_true h
    exact ⟨rfl, rfl, by show (reprText s).length + 2 ≤ 48 * 1; omega⟩
  | .none, _ => ⟨rfl, rfl, by decide +kernel⟩
  | .bool true, _ => ⟨rfl, rfl, by decide +kernel⟩
  | .bool false, _ => ⟨rfl, rfl, by decide +kernel⟩
  | .dict _, h => nomatch h
  | .list ds, h => by
    obtain ⟨a, b, c⟩ := few_signsL ds h
    refine ⟨a, b, ?_⟩
    have := list_text (PyData.shownAll ds)
    show (listText (PyData.shownAll ds)).length + 2 ≤ 48 * (1 + nodesL ds)
    omega
  | .tuple ds, h => by
    obtain ⟨a, b, c⟩ := few_signsL ds h
    refine ⟨a, b, ?_⟩
    have := fmt_text (PyData.shownAll ds)
    show (tupleText (PyData.shownAll ds)).length + 2 ≤ 48 * (1 + nodesL ds)
    omega
theorem few_signsL : ∀ ds : List PyData, smBs ds = true → PyData.showableAll ds = true ∧ PyData.hasDictAll ds = false ∧ piled (PyData.shownAll ds) ≤ 48 * nodesL ds
  | [], _ => ⟨rfl, rfl, Nat.le_refl _⟩
  | d :: ds, h => by
    obtain ⟨h1, h2⟩ := Bool.and_eq_true_iff.mp h
    obtain ⟨a1, b1, c1⟩ := few_signs d h1
    obtain ⟨a2, b2, c2⟩ := few_signsL ds h2
    refine ⟨?_, ?_, ?_⟩
    · show (d.showable && PyData.showableAll ds) = true
      rw [a1, a2]; rfl
    · show (d.hasDict || PyData.hasDictAll ds) = false
      rw [b1, b2]; rfl
    · show piled (d.shown :: PyData.shownAll ds) ≤ 48 * (nodes d + nodesL ds)
      rw [piled_cons]
      omega
end
/-- repr can be asked -/
structure Rp (d : PyData) : Prop where
  i : isDisplay d = true
  s : smB d = true
  n : nodes d ≤ 300000
  d : d.depth ≤ 100
theorem smBs_map {α : Type} {f : α → PyData} : ∀ {l : List α}, (∀ x ∈ l, smB (f x) = true) → smBs (l.map f) = true
  | [], _ => rfl
  | x :: l, h => by
    show (smB (f x) && smBs (l.map f)) = true
    rw [h x List.mem_cons_self, smBs_map fun y m => h y (List.mem_cons_of_mem _ m)]; rfl
theorem nodesL_map {α : Type} {f : α → PyData} {k : Nat} : ∀ {l : List α}, (∀ x ∈ l, nodes (f x) ≤ k) → nodesL (l.map f) ≤ k * l.length
  | [], _ => Nat.zero_le _
  | x :: l, h => by
    show nodes (f x) + nodesL (l.map f) ≤ k * (l.length + 1)
    have h1 := h x List.mem_cons_self
    have h2 := nodesL_map (k := k) fun y m => h y (List.mem_cons_of_mem _ m)
    rw [Nat.mul_add]
    omega
theorem depthAll_map {α : Type} {f : α → PyData} {k : Nat} : ∀ {l : List α}, (∀ x ∈ l, (f x).depth ≤ k) → PyData.depthAll (l.map f) ≤ k
  | [], _ => Nat.zero_le _
  | x :: l, h => by
    show max (f x).depth (PyData.depthAll (l.map f)) ≤ k
    have h1 := h x List.mem_cons_self
    have h2 := depthAll_map (k := k) fun y m => h y (List.mem_cons_of_mem _ m)
    omega
theorem smBs_all : ∀ {l : List PyData}, (∀ x ∈ l, smB x = true) → smBs l = true := fun {l} h => by
  have := smBs_map (f := id) (l := l) h
  rwa [List.map_id] at this
theorem nodesL_all {k : Nat} {l : List PyData} (h : ∀ x ∈ l, nodes x ≤ k) : nodesL l ≤ k * l.length := by
  have := nodesL_map (f := id) (l := l) h
  rwa [List.map_id] at this
theorem depthAll_all {k : Nat} {l : List PyData} (h : ∀ x ∈ l, x.depth ≤ k) : PyData.depthAll l ≤ k := by
  have := depthAll_map (f := id) (l := l) h
  rwa [List.map_id] at this
def rReprR (K : PySem.W.Frag) : List V → Hp → VK → Prop := fun xs H Q => ∃ (x : V) (d : PyData), xs = [x] ∧ Dp K H x d ∧ Rp d ∧ Q (.str d.shown) H
theorem call_reprR {X : Cx} (gu : X.A.guards = some []) (hu : X.A.units + 200 < cLine) : CallR X (.builtin "repr") (rReprR X.K) := by
  intro pins s σ H xs us Q I r h
  obtain ⟨x, d, e, hd, R, q⟩ := h
  obtain ⟨a, b, c⟩ := few_signs d R.s
  refine call_reprD gu hu pins s σ H xs us Q I r ⟨x, d, e, hd, R.i, a, b, R.d, ?_, q⟩
  have := R.n
  have : sizeLine = 16777216 := by decide
  omega
end Lk

set_option Elab.async false
set_option linter.all false
set_option maxRecDepth 100000
set_option pp.maxSteps 1500
set_option maxHeartbeats 4000000
namespace Lk
open PySem PySem.Spec PyProof.Rows L2
def spSame (K : PySem.W.Frag) : Sp := fun vs H Q _ => ∃ (x y : V) (d : PyData), vs = [x, y] ∧ Dp K H x d ∧ Dp K H y d ∧ Rp d ∧ Q (.bl true) H
section
variable {P : Program} {w : World} {K : PySem.W.Frag} {mg : Str → Option Value} {base : Heap}
theorem ok_same (T : Txt K mg) : FnG P w K mg base CX0 1 T.f__law_same T.d__law_same ["_law_told", "_law_due"] (spSame K) := by
  have nd := sc__law_same.nd
  refine okG T.F__law_same sc__law_same (fun vs H Q E h => ?_) (fun cdv A outer s H vs Q E gu0 hr h => ?_)
  · obtain ⟨x, y, d, rfl, _⟩ := h
    rfl
  obtain ⟨x, y, d, rfl, hx, hy, hr', k⟩ := h
  have gu : (A.deeper (envOfC "_law_same" (defScope s__law_same) s.heap.objs.size T.f__law_same cdv)).guards = some [] := gu0
  have hu2 : (A.deeper (envOfC "_law_same" (defScope s__law_same) s.heap.objs.size T.f__law_same cdv)).units + 200 < cLine := by have := hr.un; omega
  refine ⟨_, (pss_one (ps_ret (pe_cmpR op_eq (pe_callB (call_reprR gu hu2) (by rfl) T.z_repr (by decide +kernel) (pa_cons (pv 0) pa_nil)) (pe_callB (call_reprR gu hu2) (by rfl) T.z_repr (by decide +kernel) (pa_cons (pv 1) pa_nil)) (nomark _)))), ?_⟩
  refine ⟨_, rfl, x, d, rfl, hx, hr', _, rfl, y, d, rfl, hy, hr', rfl, ?_⟩
  rw [decide_eq_true rfl]
  exact k
end
end Lk

set_option Elab.async false
set_option linter.all false
set_option maxRecDepth 100000
set_option maxHeartbeats 4000000
namespace Lk
open PySem PySem.Spec PyProof.Rows L2 HT
/-! ### t[::-1] of a tuple: some of its items, no more than it has -/
section
variable {prog : Program} {w : World} {A : Around} {E : Value → Shared → Prop} {s : Shared}
theorem applied_rev {sl : Addr} {vl vu vs : Value} {n : Nat} {Q : Int × Int × Nat → Shared → Prop} (hs : s.heap.IsSliceOf sl vl vu vs) (pl : IsPart vl none) (pu : IsPart vu none) (ps : IsPart vs (some (-1)))
    (h : Q ((n : Int) - 1, -1, n) s) : wpAny (model prog w) A (Builtin.Slice.sliceApplied (.ref sl) (pure (n : Int))) Q E s := by
  obtain ⟨ob, h1, h2, h3⟩ := id hs
  unfold Builtin.Slice.sliceApplied Builtin.Slice.sliceFields
  refine wpAny_bind (wpAny_bind (wpAny_field h1 h3 (x := vl) rfl (wpAny_bind (wpAny_field h1 h3 (x := vu) rfl (wpAny_bind (wpAny_field h1 h3 (x := vs) rfl (wpAny_pure ?_)))))))
  refine wpAny_bind (slicePart_ ps ?_)
  show wpAny _ _ (if ((-1 : Int) == 0) = true then _ else _) _ _ s
  rw [if_neg (by decide)]
  refine wpAny_bind (slicePart_ pl (wpAny_bind (slicePart_ pu (wpAny_bind (wpAny_pure ?_)))))
  show wpAny _ _ (match Builtin.Slice.sliceAdjust none none (-1) (n : Int) with | (lo, hi) => pure (lo, (-1 : Int), Builtin.Slice.slicePlaces lo hi (-1))) _ _ s
  have e : Builtin.Slice.sliceAdjust none none (-1) (n : Int) = ((n : Int) - 1, -1) := by
    unfold Builtin.Slice.sliceAdjust
    simp
  rw [e]
  have e2 : Builtin.Slice.slicePlaces ((n : Int) - 1) (-1) (-1) = n := by
    unfold Builtin.Slice.slicePlaces
    rw [if_neg (show ¬ ((-1 : Int) > 0) by decide)]
    by_cases c : (n : Int) - 1 > -1
    · rw [if_pos c]
      have : ((n : Int) - 1 - -1 - 1) / (- -1) = (n : Int) - 1 := by
        rw [show (- -1 : Int) = 1 by decide, Int.ediv_one]; omega
      rw [this]; omega
    · rw [if_neg c]; omega
  show wpAny _ _ (pure ((n : Int) - 1, (-1 : Int), Builtin.Slice.slicePlaces ((n : Int) - 1) (-1) (-1))) _ _ s
  rw [e2]
  exact wpAny_pure h
def revPick (items : Array Value) : Array Value := ((List.range items.size).filterMap fun (m : Nat) => items[(((items.size : Int) - 1) + (m : Int) * (-1)).toNat]?).toArray
theorem revPick_size (items : Array Value) : (revPick items).size ≤ items.size := by
  unfold revPick
  rw [List.size_toArray]
  exact Nat.le_trans (List.length_filterMap_le _ _) (by rw [List.length_range]; exact Nat.le_refl _)
theorem getItem_tuple_rev {t sl : Addr} {items : Array Value} {vl vu vs : Value} {Q : Value → Shared → Prop} (ht : IsTup s.heap t items) (hs : s.heap.IsSliceOf sl vl vu vs) (pl : IsPart vl none) (pu : IsPart vu none) (ps : IsPart vs (some (-1)))
    (h : Q (.ref s.heap.objs.size) { s with heap := s.heap.push { cls := .type "tuple", data := .seq (revPick items) } }) (hsz : items.size ≤ sizeLine) : wpAny (model prog w) A (getItem (.ref t) (.ref sl)) Q E s := by
  have few : sizeOk (.seq (revPick items)) := Nat.le_trans (revPick_size items) hsz
  obtain ⟨ob, h1, h2, h3⟩ := id hs
  have hT : s.TypeIs (.ref sl) "slice" := ⟨ob, h1, h2⟩
  unfold getItem
  try with_reducible refine wpAny_holding ?_
  first | refine wpAny_bind (wpAny_pure ?_) | skip
  refine wpAny_bind (wpAny_sequenceKey ht.typeIs (by decide) (wpAny_bind (wpAny_callSpecial?_slot (name := Str.ofString "__getitem__") ht.typeIs PyProof.Rows.slot_tuple_getitem (wpAny_call_entry PyProof.Rows.slot_tuple_getitem ht.typeIs entry_tuple_getitem ?_ (args_tuple_getitem _ _)))))
  show wpAny _ _ (Builtin.Tuple.tupleItemsOf (.ref t) >>= _) _ _ s
  refine wpAny_bind (tupleItemsOf_ ht (wpAny_bind (wpAny_typeOf hT ?_)))
  rw [if_pos (by decide)]
  refine wpAny_bind (applied_rev hs pl pu ps ?_)
  have no : ¬ ((((items.size : Int) - 1) == 0 && (-1 : Int) == 1 && items.size == items.size) = true) := by
    rw [show ((-1 : Int) == 1) = false by decide, Bool.and_false, Bool.false_and]
    exact Bool.false_ne_true
  show wpAny _ _ (if (((items.size : Int) - 1) == 0 && (-1 : Int) == 1 && items.size == items.size) = true then _ else _) _ _ s
  rw [if_neg no]
  first
    | exact wpAny_bind (m := Builtin.Tuple.tupleExact _) (wpAny_newObj_type (wpAny_pure ⟨_, rfl, wpAny_pure h⟩) few)
    | exact wpAny_bind (m := Builtin.Tuple.tupleExact _) (wpAny_newObj_type (wpAny_bind (wpAny_pure (wpAny_pure ⟨_, rfl, wpAny_pure h⟩))) few)
    | exact wpAny_bind (wpAny_bind (m := Builtin.Tuple.tupleExact _) (wpAny_newObj_type (wpAny_pure (wpAny_pure ⟨_, rfl, wpAny_pure h⟩)) few))
    | exact wpAny_bind (wpAny_bind (m := Builtin.Tuple.tupleExact _) (wpAny_newObj_type (wpAny_pure ⟨_, rfl, wpAny_pure h⟩) few))
end
theorem vals_pick {xs : List V} {us : List Value} (r : Vals xs us) (f : Nat → Nat) : ∀ is : List Nat, Vals (is.filterMap fun m => xs[f m]?) (is.filterMap fun m => us[f m]?)
  | [] => .nil
  | i :: is => by
    have t := vals_pick r f is
    cases e : xs[f i]? with
    | none =>
      have e2 : us[f i]? = none := by
        rw [List.getElem?_eq_none_iff] at e ⊢
        rw [← r.length]; exact e
      simp only [List.filterMap_cons, e, e2]
      exact t
    | some x =>
      obtain ⟨u, e2, ru⟩ := r.get e
      simp only [List.filterMap_cons, e, e2]
      exact .cons ru t
theorem range_all {α : Type} : ∀ l : List α, (List.range l.length).filterMap (fun m => l[m]?) = l
  | [] => rfl
  | a :: r => by
    have i := range_all r
    rw [List.length_cons, List.range_succ_eq_map, List.filterMap_cons]
    simp only [List.getElem?_cons_zero, List.filterMap_map, Function.comp_def, List.getElem?_cons_succ]
    rw [i]
theorem fm_congr {α β : Type} {f g : α → Option β} : ∀ {l : List α}, (∀ m ∈ l, f m = g m) → l.filterMap f = l.filterMap g
  | [], _ => rfl
  | a :: r, h => by
    rw [List.filterMap_cons, List.filterMap_cons, h a List.mem_cons_self, fm_congr fun m hm => h m (List.mem_cons_of_mem _ hm)]
theorem pick_reverse {α : Type} (l : List α) : ((List.range l.length).filterMap fun (m : Nat) => l[(((l.length : Int) - 1) + (m : Int) * (-1)).toNat]?) = l.reverse := by
  have h := range_all l.reverse
  rw [List.length_reverse] at h
  refine Eq.trans (fm_congr fun m hm => ?_) h
  have hm' := List.mem_range.mp hm
  rw [List.getElem?_reverse hm']
  congr 1
  omega
def tRevT (K : PySem.W.Frag) (te : TE) : TE := fun σ H Q => te σ H fun x H1 => ∃ a xs, x = .ref a ∧ SqT K H1 a xs ∧ ∀ p, H1 p = none → Q (.ref p) (upd H1 p (.tup xs.reverse))
theorem pe_revT {X : Cx} {e : Expr} {te : TE} {k : Nat} {p1 p2 p3 pos : Pos} (he : PE X e te) : PE X (.Subscript e (.Slice none none (some (.UnaryOp .USub (.Constant (.int 1) k p1) p2)) p3) pos) (tRevT X.K te) := by
  refine ⟨fun pins s σ H Q I h => Subscript_ (thn (he.run pins s σ H _ I h) fun v s1 ⟨x, H1, I1, r1, a, xs, ex, hx, q⟩ => ?_)⟩
  subst ex
  cases r1
  have hst : PO X (some (.UnaryOp .USub (.Constant (.int 1) k p1) p2)) (tPart (tUn (rU fun i => .int (-i)) (tC (.int 1)))) := po_some (pe_un un_neg pe_int)
  refine wpAny_Slice (thn (po_none.run pins s1 σ H1 (fun o G => o = none ∧ G = H1) I1 ⟨rfl, rfl⟩) fun vl s2 ⟨l, H2, I2, pl, el, e2⟩ => ?_)
  subst el e2
  refine thn (po_none.run pins s2 σ H2 (fun o G => o = none ∧ G = H2) I2 ⟨rfl, rfl⟩) fun vu s3 ⟨u, H3, I3, pu, eu, e3⟩ => ?_
  subst eu e3
  refine thn (hst.run pins s3 σ H3 (fun o G => o = some (-1) ∧ G = H3) I3 ⟨1, rfl, -1, rfl, rfl, rfl⟩) fun vs s4 ⟨o, H4, I4, ps, eo, e4⟩ => ?_
  subst eo e4
  have I5 : Inv X pins σ H4 { s4 with heap := s4.heap.push { cls := .type "slice", data := .fields #[vl, vu, vs] } } := I4.kept (t' := s4.toks) fun b ob q => Heap.get?_push_of_some _ q
  obtain ⟨its, r, ht, hz⟩ := I5.tuple hx
  show wpAny (model X.prog X.w) X.A (subscriptTail e (.Slice none none (some (.UnaryOp .USub (.Constant (.int 1) k p1) p2)) p3) (.ref a) (.ref s4.heap.objs.size)) (EP X pins σ Q) X.xe { s4 with heap := s4.heap.push { cls := .type "slice", data := .fields #[vl, vu, vs] } }
  refine tail_any (ops := [.ref a, .ref s4.heap.objs.size]) ht.typeIs (PyProof.Rows.slot_tuple_getitem.lookup) ?_ (by with_unfolding_all rfl)
  have hlen := r.length
  refine getItem_tuple_rev ht (Heap.IsSliceOf.new _ vl vu vs) pl pu ps ?_ (by rw [List.size_toArray, ← hlen]; exact hz)
  have rv := vals_pick r (fun m => (((its.toArray.size : Int) - 1) + (m : Int) * (-1)).toNat) (List.range its.toArray.size)
  have ep : revPick its.toArray = ((List.range its.toArray.size).filterMap fun (m : Nat) => its[(((its.toArray.size : Int) - 1) + (m : Int) * (-1)).toNat]?).toArray := by
    unfold revPick
    congr 1
    refine congrArg (fun f => List.filterMap f _) (funext fun m => ?_)
    simp
  rw [ep]
  have lz : xs.reverse.length ≤ sizeLine := by rw [List.length_reverse]; exact hz
  have rv2 : Vals xs.reverse ((List.range its.toArray.size).filterMap fun (m : Nat) => its[(((its.toArray.size : Int) - 1) + (m : Int) * (-1)).toNat]?) := by
    have e := pick_reverse xs
    rw [List.size_toArray] at rv ⊢
    rw [← hlen] at rv ⊢
    rw [e] at rv
    exact rv
  refine ⟨.ref _, _, I5.laid (t' := s4.toks) (o := .tup xs.reverse) (fun b ob q => Heap.get?_push_of_some _ q) (Nat.le_refl _) ⟨lz, _, rv2, IsTup.new _ _⟩, rfl, q _ (I5.hok.fresh (Nat.le_refl _))⟩
end Lk

set_option Elab.async false
set_option linter.all false
set_option maxRecDepth 100000
set_option maxHeartbeats 4000000
namespace Lk
open PySem PySem.Spec PyProof.Rows L2 HT
/-! ### l[::-1] of a list -/
def tRevL (K : PySem.W.Frag) (te : TE) : TE := fun σ H Q => te σ H fun x H1 => ∃ a xs, x = .ref a ∧ SqL K H1 a xs ∧ ∀ p, H1 p = none → Q (.ref p) (upd H1 p (.lst xs.reverse))
theorem vals_rev : ∀ {xs : List V} {us : List Value}, Vals xs us → Vals xs.reverse us.reverse
  | _, _, .nil => .nil
  | _, _, .cons a t => by
    rw [List.reverse_cons, List.reverse_cons]
    exact (vals_rev t).append (.cons a .nil)
theorem pe_revL {X : Cx} {e : Expr} {te : TE} {k : Nat} {p1 p2 p3 pos : Pos} (he : PE X e te) : PE X (.Subscript e (.Slice none none (some (.UnaryOp .USub (.Constant (.int 1) k p1) p2)) p3) pos) (tRevL X.K te) := by
  refine ⟨fun pins s σ H Q I h => Subscript_ (thn (he.run pins s σ H _ I h) fun v sA ⟨x, HA, IA, rA, a, xs, ex, hx, q⟩ => ?_)⟩
  subst ex
  cases rA
  have hst : PO X (some (.UnaryOp .USub (.Constant (.int 1) k p1) p2)) (tPart (tUn (rU fun i => .int (-i)) (tC (.int 1)))) := po_some (pe_un un_neg pe_int)
  refine wpAny_Slice (thn (po_none.run pins sA σ HA (fun o G => o = none ∧ G = HA) IA ⟨rfl, rfl⟩) fun vl sB ⟨l, HB, IB, pl, el, eB⟩ => ?_)
  subst el eB
  refine thn (po_none.run pins sB σ HB (fun o G => o = none ∧ G = HB) IB ⟨rfl, rfl⟩) fun vu sC ⟨u, HC, IC, pu, eu, eC⟩ => ?_
  subst eu eC
  refine thn (hst.run pins sC σ HC (fun o G => o = some (-1) ∧ G = HC) IC ⟨1, rfl, -1, rfl, rfl, rfl⟩) fun vs sD ⟨o, HD, ID, ps, eo, eD⟩ => ?_
  subst eo eD
  have IE : Inv X pins σ HD { sD with heap := sD.heap.push { cls := .type "slice", data := .fields #[vl, vu, vs] } } := ID.kept (t' := sD.toks) fun b ob q => Heap.get?_push_of_some _ q
  obtain ⟨its, r, ht, hz⟩ := IE.list hx
  show wpAny (model X.prog X.w) X.A (subscriptTail e (.Slice none none (some (.UnaryOp .USub (.Constant (.int 1) k p1) p2)) p3) (.ref a) (.ref sD.heap.objs.size)) (EP X pins σ Q) X.xe { sD with heap := sD.heap.push { cls := .type "slice", data := .fields #[vl, vu, vs] } }
  refine tail_any (ops := [.ref a, .ref sD.heap.objs.size]) ht.isList.typeIs slot_list_getitem.lookup ?_ (by with_unfolding_all rfl)
  have hlen := r.length
  refine wpAny_getItem_list_slice ht.isList (Heap.IsSliceOf.new _ vl vu vs) pl pu ps (by simp) ?_ (by rw [List.size_toArray, ← hlen]; exact hz)
  rw [PySem.W.krv_pick]
  have lz : xs.reverse.length ≤ sizeLine := by rw [List.length_reverse]; exact hz
  exact ⟨.ref _, _, IE.laid (t' := sD.toks) (o := .lst xs.reverse) (fun b ob q => Heap.get?_push_of_some _ q) (Nat.le_refl _) ⟨lz, _, 0, vals_rev r, Heap.get?_push_size _ rfl⟩, rfl, q _ (IE.hok.fresh (Nat.le_refl _))⟩
end Lk

set_option Elab.async false
set_option linter.all false
set_option maxRecDepth 100000
set_option maxHeartbeats 4000000
set_option pp.maxSteps 1500
namespace Lk
open PySem PySem.Spec PyProof.Rows L2
theorem dpAll_rev {K : PySem.W.Frag} {H : Hp} : ∀ {vs : List V} {ds : List PyData}, DpAll K H vs ds → DpAll K H vs.reverse ds.reverse
  | _, _, .nil => .nil
  | _, _, .cons a t => by
    rw [List.reverse_cons, List.reverse_cons]
    exact dpAll_app (dpAll_rev t) a
theorem strOk_names : ∀ z ∈ namesL, (PyData.str z).canLay0 = true := by decide +kernel
theorem shaped_names {l : List Str} (h : ∀ z ∈ l, z ∈ namesL) : SeqAt.shaped (.list (l.map .str)) = true := by
  unfold SeqAt.shaped
  rw [Bool.and_eq_true_iff]
  refine ⟨?_, decide_eq_true (by simp only [PyData.depth, depth_strs]; omega)⟩
  show PyData.canLayAll0 (l.map .str) = true
  induction l with
  | nil => rfl
  | cons a l ih =>
    show ((PyData.str a).canLay0 && PyData.canLayAll0 (l.map .str)) = true
    rw [strOk_names a (h a List.mem_cons_self), ih fun z m => h z (List.mem_cons_of_mem _ m)]; rfl
/-! ### what is told and what is due, one after another -/
structure ItemOk (d : PyData) : Prop where
  s : smB d = true
  n : nodes d ≤ 3700
  dp : d.depth ≤ 3
  l : noL d = true
theorem smBs_strs {l : List Str} (h : ∀ z ∈ l, z ∈ namesL) : smBs (l.map .str) = true := smBs_map fun z m => decide_eq_true (names_all z (h z m)).2.1
theorem nodesL_strs (l : List Str) : nodesL (l.map .str) ≤ 1 * l.length := nodesL_map fun _ _ => Nat.le_refl _
theorem item_strs {l : List Str} (h : ∀ z ∈ l, z ∈ namesL) (n : l.length ≤ 60) : ItemOk (.tuple (l.map .str)) := by
  have := nodesL_strs l
  refine ⟨smBs_strs h, by show 1 + nodesL (l.map .str) ≤ 3700; omega, by simp only [PyData.depth, depth_strs]; omega, noLs_map (f := PyData.str) (fun _ => rfl) l⟩
theorem item_bool (b : Bool) : ItemOk (.bool b) := ⟨rfl, by show 1 ≤ 3700; decide, by show 0 ≤ 3; decide, rfl⟩
theorem item_tups {ls : List (List Str)} (h : ∀ l ∈ ls, (∀ z ∈ l, z ∈ namesL) ∧ l.length ≤ 60) (n : ls.length ≤ 60) : ItemOk (.tuple (ls.map fun l => .tuple (l.map .str))) := by
  have hn : nodesL (ls.map fun l => .tuple (l.map .str)) ≤ 61 * ls.length := nodesL_map fun l m => by
    have := nodesL_strs l
    have := (h l m).2
    show 1 + nodesL (l.map .str) ≤ 61; omega
  have hd : PyData.depthAll (ls.map fun l => .tuple (l.map .str)) ≤ 2 := depthAll_map fun l _ => by simp only [PyData.depth, depth_strs]; omega
  refine ⟨smBs_map fun l m => smBs_strs (h l m).1, ?_, ?_, noLs_map (f := fun l : List Str => .tuple (l.map .str)) (fun l => noLs_map (f := PyData.str) (fun _ => rfl) l) ls⟩
  · show 1 + nodesL _ ≤ 3700
    omega
  · simp only [PyData.depth]; omega
theorem noLs_all : ∀ {ds : List PyData}, (∀ d ∈ ds, noL d = true) → noLs ds = true
  | [], _ => rfl
  | d :: ds, h => by
    show (noL d && noLs ds) = true
    rw [h d List.mem_cons_self, noLs_all fun x m => h x (List.mem_cons_of_mem _ m)]; rfl
theorem items_rp {ds : List PyData} (h : ∀ d ∈ ds, ItemOk d) (n : ds.length ≤ 60) : Rp (.list ds) := by
  have h1 := nodesL_all (k := 3700) fun d m => (h d m).n
  have h2 := depthAll_all (k := 3) fun d m => (h d m).dp
  refine ⟨rfl, smBs_all fun d m => (h d m).s, ?_, ?_⟩
  · show 1 + nodesL ds ≤ 300000
    omega
  · simp only [PyData.depth]; omega
abbrev Zd (l pt pd : Addr) (H : Hp) : Hp := del (del (del H l) pt) pd
theorem zd_le (l pt pd : Addr) (H : Hp) : Same (Zd l pt pd H) H := (del_le _ pd).trans ((del_le _ pt).trans (del_le _ l))
theorem zd_same {l pt pd : Addr} {H H' : Hp} (e : Same H H') : Same (Zd l pt pd H) (Zd l pt pd H') := same_del pd (same_del pt (same_del l e))
theorem zd_at {l pt pd a : Addr} {H : Hp} {o : HO} (h : H a = some o) (n1 : a ≠ l) (n2 : a ≠ pt) (n3 : a ≠ pd) : Zd l pt pd H a = some o := by
  unfold Zd; rw [del_ne n3, del_ne n2, del_ne n1]; exact h
structure TD (K : PySem.W.Frag) (l q : Addr) (ns : List Int) (pt pd : Addr) (HB H : Hp) (ds es : List PyData) : Prop where
  f : Feed K H l q ns
  c : SqL K (Zd l pt pd H) q (iV ns)
  s : Same (Zd l pt pd HB) (Zd l pt pd H)
  n1 : pt ≠ l
  n2 : pd ≠ l
  n3 : pt ≠ pd
  told : ∃ xs, H pt = some (.lst xs) ∧ DpAll K (Zd l pt pd H) xs ds
  due : ∃ xs, H pd = some (.lst xs) ∧ DpAll K (Zd l pt pd H) xs es
section
variable {K : PySem.W.Frag} {l q : Addr} {ns : List Int} {pt pd : Addr} {HB H H' : Hp} {ds es : List PyData}
theorem TD.ext (t : TD K l q ns pt pd HB H ds es) (e : Same H H') : TD K l q ns pt pd HB H' ds es := by
  obtain ⟨f, c, s, n1, n2, n3, ⟨xs, h1, h2⟩, ⟨ys, g1, g2⟩⟩ := t
  exact ⟨f.ext e, (zd_same e).seq c, s.trans (zd_same e), n1, n2, n3, ⟨xs, e _ _ h1, dpAll_same (zd_same e) h2⟩, ⟨ys, e _ _ g1, dpAll_same (zd_same e) g2⟩⟩
theorem TD.draw (t : TD K l q ns pt pd HB H ds es) (f2 : Feed K H' l q ns) (e : Same (del H l) (del H' l)) : TD K l q ns pt pd HB H' ds es := by
  obtain ⟨f, c, s, n1, n2, n3, ⟨xs, h1, h2⟩, ⟨ys, g1, g2⟩⟩ := t
  have ez : Same (Zd l pt pd H) (Zd l pt pd H') := same_del pd (same_del pt e)
  exact ⟨f2, ez.seq c, s.trans ez, n1, n2, n3, ⟨xs, Same.off e n1 h1, dpAll_same ez h2⟩, ⟨ys, Same.off e n2 g1, dpAll_same ez g2⟩⟩
theorem TD.off (t : TD K l q ns pt pd HB H ds es) {v : V} {d : PyData} (n : noL d = true) (h : Dp K H v d) : Dp K (Zd l pt pd H) v d := by
  obtain ⟨⟨_, _, _, hl, _⟩, _, _, n1, n2, n3, ⟨xs, h1, _⟩, ⟨ys, g1, _⟩⟩ := t
  exact dp_off (ys := ys) (by rw [del_ne n3.symm, del_ne n2]; exact g1) n (dp_off (ys := xs) (by rw [del_ne n1]; exact h1) n (dp_off hl n h))
theorem zd_pt (l pt pd : Addr) (H : Hp) (o : HO) : Zd l pt pd (upd H pt o) = Zd l pt pd H := by
  unfold Zd; rw [del_comm _ l pt, del_upd, del_comm _ pt l]
theorem zd_pd (l pt pd : Addr) (H : Hp) (o : HO) : Zd l pt pd (upd H pd o) = Zd l pt pd H := by
  unfold Zd; rw [del_comm _ pt pd, del_comm _ l pd, del_upd, del_comm _ pd l, del_comm _ pd pt]
theorem TD.putT (t : TD K l q ns pt pd HB H ds es) {xs : List V} {v : V} {d : PyData} (hx : H pt = some (.lst xs)) (n : noL d = true) (h : Dp K H v d) : TD K l q ns pt pd HB (upd H pt (.lst (xs ++ [v]))) (ds ++ [d]) es := by
  have hz := t.off n h
  obtain ⟨⟨a1, a2, a3, b1, b2, b3, b4⟩, c, s, n1, n2, n3, ⟨xs', h1, h2⟩, ⟨ys, g1, g2⟩⟩ := t
  rw [hx] at h1
  obtain rfl := HO.lst.inj (Option.some.inj h1)
  have ez := zd_pt l pt pd H (.lst (xs ++ [v]))
  refine ⟨⟨a1, a2, a3, by rw [upd_ne n1.symm]; exact b1, ?_, b3, b4⟩, by rw [ez]; exact c, by rw [ez]; exact s, n1, n2, n3, ⟨_, upd_same, by rw [ez]; exact dpAll_app h2 hz⟩, ⟨ys, by rw [upd_ne n3.symm]; exact g1, by rw [ez]; exact g2⟩⟩
  refine Same.seq (fun b o z => ?_) c
  have : Zd l pt pd (upd H pt (.lst (xs ++ [v]))) b = some o := by rw [ez]; exact z
  exact del_le _ pt _ _ (del_le _ pd _ _ this)
theorem TD.putD (t : TD K l q ns pt pd HB H ds es) {xs : List V} {v : V} {d : PyData} (hx : H pd = some (.lst xs)) (n : noL d = true) (h : Dp K H v d) : TD K l q ns pt pd HB (upd H pd (.lst (xs ++ [v]))) ds (es ++ [d]) := by
  have hz := t.off n h
  obtain ⟨⟨a1, a2, a3, b1, b2, b3, b4⟩, c, s, n1, n2, n3, ⟨ys, g1, g2⟩, ⟨xs', h1, h2⟩⟩ := t
  rw [hx] at h1
  obtain rfl := HO.lst.inj (Option.some.inj h1)
  have ez := zd_pd l pt pd H (.lst (xs ++ [v]))
  refine ⟨⟨a1, a2, a3, by rw [upd_ne n2.symm]; exact b1, ?_, b3, b4⟩, by rw [ez]; exact c, by rw [ez]; exact s, n1, n2, n3, ⟨ys, by rw [upd_ne n3]; exact g1, by rw [ez]; exact g2⟩, ⟨_, upd_same, by rw [ez]; exact dpAll_app h2 hz⟩⟩
  refine Same.seq (fun b o z => ?_) c
  have : Zd l pt pd (upd H pd (.lst (xs ++ [v]))) b = some o := by rw [ez]; exact z
  exact del_le _ pt _ _ (del_le _ pd _ _ this)
theorem TD.dp (t : TD K l q ns pt pd HB H ds es) {v : V} {d : PyData} (h : Dp K (Zd l pt pd HB) v d) : Dp K H v d := dp_same (zd_le l pt pd H) (dp_same t.s h)
theorem TD.at (t : TD K l q ns pt pd HB H ds es) {a : Addr} {o : HO} (h : Zd l pt pd HB a = some o) : H a = some o := zd_le l pt pd H _ _ (t.s _ _ h)
end
theorem WY.bare {HB H : Hp} {W : Addr} {ts : List Str} {la : Str → Addr} {f : Str → List Str} (y : WY HB H W ts la f) : WY (fun _ => none) H W ts la f := ⟨(fun _ _ h => nomatch h), y.w, rfl, y.ls, (fun _ _ => rfl), y.inj⟩
theorem WY.del {H : Hp} {W l : Addr} {ts : List Str} {la : Str → Addr} {f : Str → List Str} (y : WY (fun _ => none) H W ts la f) (n : W ≠ l) (m : ∀ t ∈ ts, la t ≠ l) : WY (fun _ => none) (del H l) W ts la f :=
  ⟨(fun _ _ h => nomatch h), by rw [del_ne n]; exact y.w, rfl, fun t h => by rw [del_ne (m t h)]; exact y.ls t h, (fun _ _ => rfl), y.inj⟩
end Lk

set_option Elab.async false
set_option linter.all false
set_option maxRecDepth 100000
set_option maxHeartbeats 4000000
set_option pp.maxSteps 1500
namespace Lk
open PySem PySem.Spec PyProof.Rows L2
theorem zd_off {K : PySem.W.Frag} {H : Hp} {l pt pd : Addr} {zs xs ys : List V} (hl : H l = some (.lst zs)) (hp : H pt = some (.lst xs)) (hd : H pd = some (.lst ys)) (n1 : pt ≠ l) (n2 : pd ≠ l) (n3 : pt ≠ pd) {v : V} {d : PyData} (n : noL d = true) (h : Dp K H v d) : Dp K (Zd l pt pd H) v d :=
  dp_off (ys := ys) (by rw [del_ne n3.symm, del_ne n2]; exact hd) n (dp_off (ys := xs) (by rw [del_ne n1]; exact hp) n (dp_off hl n h))
theorem DrR.flat {rs : List Rw} {ts gs : List Str} (d : DrR rs ts gs) {z : Str} (h : z ∈ flatC (csOf rs)) : z ∈ namesL := by
  obtain ⟨c, m, hz⟩ := List.mem_flatMap.mp h
  obtain ⟨r, mr, rfl⟩ := List.mem_map.mp m
  obtain ⟨x, mx, rfl⟩ := List.mem_map.mp hz
  exact d.name ((d.row r mr).cl x mx).2
theorem DrR.ttls {rs : List Rw} {ts gs : List Str} (d : DrR rs ts gs) : (csOf rs).map (·.1) = ts := (cs_ttl rs).trans d.ttl
theorem DrR.rings_ok {rs : List Rw} {ts gs : List Str} (d : DrR rs ts gs) : ItemOk (ringsD (csOf rs)) := by
  have hl : ∀ t, (ringL (csOf rs) (srt ((csOf rs).map (·.1))) t).length ≤ 60 := fun t => by
    refine Nat.le_trans (List.length_filter_le _ _) ?_
    rw [srt_len, d.ttls]; have := d.len; omega
  refine item_tups (fun r m => ?_) ?_
  · obtain ⟨t, mt, _, rfl⟩ := rings_mem.mp m
    refine ⟨fun z mz => ?_, hl t⟩
    have := (ring_mem.mp mz).1
    rw [d.ttls] at this
    exact d.tn z (srt_mem.mp this)
  · unfold ringsL
    rw [List.length_map]
    refine Nat.le_trans (List.length_filter_le _ _) ?_
    rw [srt_len, d.ttls]; have := d.len; omega
theorem DrR.reach_ok {rs : List Rw} {ts gs : List Str} (d : DrR rs ts gs) {ks : List Str} {t : Str} (nd : ks.Nodup) (h : ∀ z, z ∈ ks ↔ Rc (csOf rs) t z) : ItemOk (.tuple ((srt ks).map .str)) :=
  item_strs (fun z m => d.flat ((h z).mp (srt_mem.mp m)).flat) (by rw [srt_len]; exact rc_len d.small nd h)
theorem put_v {K : PySem.W.Frag} {i : Nat} {t : TE} {rest : TS} {D : Ends} {σ : L2.St} {G : Hp} {pd : Addr} {ys : List V} (v : V) (hσ : σ[i]? = some (some (.ref pd))) (h : G pd = some (.lst ys)) (n : ys.length < sizeLine) (ev : ∀ Q' : VK, Q' v G → t σ G Q') (k : rest D σ (upd G pd (.lst (ys ++ [v])))) :
    tSeq (tDrop (tBM K "list" rAppend (tVar i) (tCons t tNil))) rest D σ G := ⟨_, hσ, .inl ⟨rfl, _, SqL.of h⟩, ev _ ⟨pd, ys, _, rfl, rfl, h, n, k⟩⟩
def spReachedL (K : PySem.W.Frag) : Sp := fun vs H Q _ => ∃ (l q R TA W : Addr) (ns : List Int) (rs : List Rw) (ts gs : List Str) (xs : List V) (la : Str → Addr) (f : Str → List Str), vs = [.ref l, .ref R, .ref TA, .ref W] ∧ Feed K H l q ns ∧ del H l R = some (.lst xs) ∧ DpAll K (del H l) xs (rs.map rowD) ∧
  del H l TA = some (.lst (ts.map V.str)) ∧ WY (fun _ => none) (del H l) W ts la f ∧ (∀ t ∈ ts, (f t).Nodup ∧ ∀ z, z ∈ f t ↔ Rc (csOf rs) t z) ∧ DrR rs ts gs ∧ ∀ H', FI K H l q ns H' → Q (.bl true) H'
section
variable {P : Program} {w : World} {K : PySem.W.Frag} {mg : Str → Option Value} {base : Heap}
theorem ok_are_reached (T : Txt K mg) : FnG P w K mg base CX0 8 T.f__law_are_reached T.d__law_are_reached ["_law_feed_here", "_law_rows", "_law_titles", "_law_ways_here"] (spReachedL K) := by
  have nd := sc__law_are_reached.nd
  refine okG T.F__law_are_reached sc__law_are_reached (fun vs H Q E h => ?_) (fun cdv A outer s H vs Q E gu0 hr h => ?_)
  · obtain ⟨l, q, R, TA, W, ns, rs, ts, gs, xs, la, f, rfl, _⟩ := h
    rfl
  obtain ⟨l, q, R, TA, W, ns, rs, ts, gs, xs, la, f, rfl, hf, hR, hx, hT, wy, hw, dr, k⟩ := h
  have gu : (A.deeper (envOfC "_law_are_reached" (defScope s__law_are_reached) s.heap.objs.size T.f__law_are_reached cdv)).guards = some [] := gu0
  have G__law_pick : FnOk P w K mg base CX0 1 _ _ _ (spPick K) := ok_pick T
  have hr__law_pick := hr.mono (j := 1) (by omega)
  have G__law_rings : FnOk P w K mg base CX0 1 _ _ _ (spRingsL K) := ok_law_rings T
  have hr__law_rings := hr.mono (j := 1) (by omega)
  have G_rings_of : FnOk P w K mg base CX0 7 _ _ _ (spRingsG K) := ok_ringsG T
  have hr_rings_of := hr
  have G_reached_from : FnOk P w K mg base CX0 7 _ _ _ (spFromG K) := ok_fromG T
  have hr_reached_from := hr
  have G_is_ring_call : FnOk P w K mg base CX0 7 _ _ _ (spRingG K) := ok_ringG T
  have hr_is_ring_call := hr
  have G__law_same : FnG P w K mg base CX0 1 _ _ _ (spSame K) := ok_same T
  have hr__law_same : Room 1 _ := hr.mono (by omega)
  refine ⟨_, (pss_cons (ps_par (i := 4) (j := 5) rfl nd rfl rfl (by decide) rfl rfl (pa_cons (pe_callTy call_tuple_of (by rfl) T.z_tuple (by decide +kernel) (pa_cons (pv 1) pa_nil)) (pa_cons (pe_callTy call_tuple_of (by rfl) T.z_tuple (by decide +kernel) (pa_cons (pe_revL (pv 1)) pa_nil)) pa_nil)) (by rfl))
      (pss_cons (ps_set (i := 6) nd rfl (Or.inl rfl) (pe_call G__law_rings hr__law_rings rfl T.m__law_rings T.k__law_rings T.b__law_rings .nil pass0 (pa_cons (pv 2) (pa_cons (pv 3) pa_nil))))
      (pss_cons (ps_par (i := 7) (j := 8) rfl nd rfl rfl (by decide) rfl rfl (pa_cons (pe_lst (pa_cons (pe_call G_rings_of hr_rings_of rfl T.m_rings_of T.k_rings_of T.b_rings_of .nil pass0 (pa_cons (pv 4) pa_nil)) (pa_cons (by exact (pe_callKS (E := fun _ => E0) G_rings_of hr_rings_of rfl T.m_rings_of T.k_rings_of T.w_rings_of_sheets passAt0 (pk_cons (pv 5) pk_nil))) pa_nil))) (pa_cons (pe_lst (pa_cons (pv 6) (pa_cons (pv 6) pa_nil))) pa_nil)) (by rfl))
      (pss_cons (ps_for PassesOwn.never rfl (pi_list (pv 2)) (pg_name (i := 9) nd rfl (Or.inl rfl))
      (pss_cons (ps_expr (pe_bm PySem.F.plainAttrs_list PySem.F.slot_list_append PySem.F.type_list_append mt_append (pv 7) (pa_cons (pe_call G_reached_from hr_reached_from rfl T.m_reached_from T.k_reached_from T.b_reached_from .nil pass0 (pa_cons (pv 4) (pa_cons (pv 9) pa_nil))) pa_nil)))
      (pss_one (ps_expr (pe_bm PySem.F.plainAttrs_list PySem.F.slot_list_append PySem.F.type_list_append mt_append (pv 8) (pa_cons (pe_callTy call_tuple_of (by rfl) T.z_tuple (by decide +kernel) (pa_cons (pe_callB cr_sortedS (by rfl) T.z_sorted (by decide +kernel) (pa_cons (pe_dget (hu1 hr) (pv 3) (pv 9) (fun _ _ => rfl)) pa_nil)) pa_nil)) pa_nil))))))
      (pss_cons (ps_for PassesOwn.never rfl (pi_range1 (by rfl) T.z_range (pa_cons (pe_op op_mul pe_int (pe_callTy call_int1 (by rfl) T.z_int (by decide +kernel) (pa_cons (pe_cmpR (op_neD hr.units) (pv 2) (pe_lst pa_nil) (nomark _)) pa_nil))) pa_nil)) (pg_name (i := 10) nd rfl (Or.inl rfl))
      (pss_cons (ps_set (i := 9) nd rfl (Or.inl rfl) (pe_ix ix_list (pv 2) (pe_call G__law_pick hr__law_pick rfl T.m__law_pick T.k__law_pick T.b__law_pick .nil pass0 (pa_cons (pv 0) (pa_cons (pe_callB call_len_seq (by rfl) T.z_len PySem.boot_len (pa_cons (pv 2) pa_nil)) pa_nil))) (fun _ _ => rfl)))
      (pss_cons (ps_set (i := 11) nd rfl (Or.inl rfl) (pe_ix ix_list (pv 2) (pe_call G__law_pick hr__law_pick rfl T.m__law_pick T.k__law_pick T.b__law_pick .nil pass0 (pa_cons (pv 0) (pa_cons (pe_callB call_len_seq (by rfl) T.z_len PySem.boot_len (pa_cons (pv 2) pa_nil)) pa_nil))) (fun _ _ => rfl)))
      (pss_cons (ps_expr (pe_bm PySem.F.plainAttrs_list PySem.F.slot_list_append PySem.F.type_list_append mt_append (pv 7) (pa_cons (pe_call G_is_ring_call hr_is_ring_call rfl T.m_is_ring_call T.k_is_ring_call T.b_is_ring_call .nil pass0 (pa_cons (pv 4) (pa_cons (pv 9) (pa_cons (pv 11) pa_nil)))) pa_nil)))
      (pss_cons (ps_expr (pe_bm PySem.F.plainAttrs_list PySem.F.slot_list_append PySem.F.type_list_append mt_append (pv 8) (pa_cons (pe_or (pe_cmpR op_eq (pv 9) (pv 11) (nomark _)) (pe_one (pe_cmpR op_in_seq (pv 9) (pe_dget (hu1 hr) (pv 3) (pv 11) (fun _ _ => rfl)) (by rfl)))) pa_nil)))
      (pss_cons (ps_expr (pe_bm PySem.F.plainAttrs_list PySem.F.slot_list_append PySem.F.type_list_append mt_append (pv 7) (pa_cons (by exact (pe_callKS (E := fun _ => E0) G_is_ring_call hr_is_ring_call rfl T.m_is_ring_call T.k_is_ring_call T.w_is_ring_call_called_caller_sheets passAt0 (pk_cons (pv 9) (pk_cons (pv 11) (pk_cons (pv 5) pk_nil))))) pa_nil)))
      (pss_cons (ps_expr (pe_bm PySem.F.plainAttrs_list PySem.F.slot_list_append PySem.F.type_list_append mt_append (pv 8) (pa_cons (pe_or (pe_cmpR op_eq (pv 9) (pv 11) (nomark _)) (pe_one (pe_cmpR op_in_seq (pv 11) (pe_dget (hu1 hr) (pv 3) (pv 9) (fun _ _ => rfl)) (by rfl)))) pa_nil)))
      (pss_cons (ps_expr (pe_bm PySem.F.plainAttrs_list PySem.F.slot_list_append PySem.F.type_list_append mt_append (pv 7) (pa_cons (by exact (pe_callKS (E := fun _ => E0) G_reached_from hr_reached_from rfl T.m_reached_from T.k_reached_from T.w_reached_from_name_sheets passAt0 (pk_cons (pv 11) (pk_cons (pv 5) pk_nil)))) pa_nil)))
      (pss_one (ps_expr (pe_bm PySem.F.plainAttrs_list PySem.F.slot_list_append PySem.F.type_list_append mt_append (pv 8) (pa_cons (pe_callTy call_tuple_of (by rfl) T.z_tuple (by decide +kernel) (pa_cons (pe_callB cr_sortedS (by rfl) T.z_sorted (by decide +kernel) (pa_cons (pe_dget (hu1 hr) (pv 3) (pv 11) (fun _ _ => rfl)) pa_nil)) pa_nil)) pa_nil))))))))))))
      (pss_cons (ps_expr (pe_bm PySem.F.plainAttrs_list PySem.F.slot_list_append PySem.F.type_list_append mt_append (pv 7) (pa_cons (pe_call G_rings_of hr_rings_of rfl T.m_rings_of T.k_rings_of T.b_rings_of .nil pass0 (pa_cons (pv 4) pa_nil)) pa_nil)))
      (pss_one (ps_ret (by exact (pe_callG G__law_same gu hr__law_same rfl T.m__law_same T.k__law_same T.b__law_same .nil pass0 (pa_cons (pv 7) (pa_cons (pe_op op_cat (pv 8) (pe_lst (pa_cons (pv 6) pa_nil))) pa_nil)))))))))))), ?_⟩
  have hcs := dr.ttls
  have ndc : ((csOf rs).map (·.1)).Nodup := by rw [hcs]; exact dr.nd
  have pr : (csOf rs.reverse).Perm (csOf rs) := by unfold csOf; exact (List.reverse_perm rs).map _
  have ndr : ((csOf rs.reverse).map (·.1)).Nodup := (pr.map _).nodup_iff.mpr ndc
  have drr := dr.rev
  refine ⟨_, rfl, R, _, rfl, .inl ⟨SqL.of (del_at hR).1, fun TO hTO => ?_⟩⟩
  have s1 := same_new hTO (.tup xs)
  have hTO1 : (upd H TO (.tup xs)) TO = some (.tup xs) := upd_same
  generalize upd H TO (.tup xs) = H1 at s1 hTO1 ⊢
  refine ⟨_, rfl, R, _, rfl, SqL.of (s1 _ _ (del_at hR).1), fun rv hrv => ⟨rv, _, rfl, .inl ⟨SqL.of upd_same, fun TU hTU => ⟨_, _, rfl, ?_⟩⟩⟩⟩
  have s2 := same_new hrv (.lst xs.reverse)
  have s3 := same_new hTU (.tup xs.reverse)
  have hTU3 : (upd (upd H1 rv (.lst xs.reverse)) TU (.tup xs.reverse)) TU = some (.tup xs.reverse) := upd_same
  have s13 := s2.trans s3
  generalize upd (upd H1 rv (.lst xs.reverse)) TU (.tup xs.reverse) = H3 at s13 hTU3 ⊢
  clear s2 s3 hTU hrv
  have s03 := s1.trans s13
  have hx0 := dpAll_same (del_le H l) hx
  have dTO : Dp K H3 (.ref TO) (rowsD rs) := .tup (SqT.of (s13 _ _ hTO1)) (dpAll_same s03 hx0)
  have dTU : Dp K H3 (.ref TU) (rowsD rs.reverse) := by
    refine .tup (SqT.of hTU3) ?_
    rw [List.map_reverse]
    exact dpAll_rev (dpAll_same s03 hx0)
  have wy3 : WY (fun _ => none) H3 W ts la f := wy.ext ((del_le H l).trans s03)
  dsimp only
  refine ⟨_, rfl, _, rfl, TA, W, _, ts, la, f, csOf rs, rfl, SqL.of (s03 _ _ (del_at hT).1), wy3, hw, hcs, dr.nd, by have := dr.len; omega, fun vR H4 e4 dR => ?_⟩
  have dTO4 := dp_same e4 dTO
  have dTU4 := dp_same e4 dTU
  refine ⟨_, rfl, _, rowsD rs, rfl, dTO4, dr.sz, dr.sheets, by rw [cs_rows]; exact dr.small, by rw [cs_rows]; exact ndc, fun v1 H5 e5 d1 => ?_⟩
  refine ⟨_, rfl, _, rowsD rs.reverse, rfl, dp_same e5 dTU4, drr.sz, drr.sheets, by rw [cs_rows]; exact drr.small, by rw [cs_rows]; exact ndr, fun v2 H6 e6 d2 => ?_⟩
  rw [cs_rows] at d1 d2
  rw [rings_perm pr ndr] at d2
  refine ⟨(by show 2 ≤ sizeLine; decide), fun pt hpt => ⟨_, rfl, _, rfl, (by show 2 ≤ sizeLine; decide), fun pd hpd => ⟨_, _, rfl, ?_⟩⟩⟩
  have s7 := same_new hpt (.lst [v1, v2])
  have s8 := same_new hpd (.lst [vR, vR])
  have hpt7 : (upd H6 pt (.lst [v1, v2])) pt = some (.lst [v1, v2]) := upd_same
  have npp : pt ≠ pd := fun z => by rw [← z, hpt7] at hpd; cases hpd
  have hpt8 := s8 _ _ hpt7
  have hpd8 : (upd (upd H6 pt (.lst [v1, v2])) pd (.lst [vR, vR])) pd = some (.lst [vR, vR]) := upd_same
  have hpd6 : H6 pd = none := none_of s7 hpd
  have s68 := s7.trans s8
  generalize upd (upd H6 pt (.lst [v1, v2])) pd (.lst [vR, vR]) = H8 at s68 hpt8 hpd8 ⊢
  clear s7 s8 hpt7 hpd
  have s36 := (e4.trans e5).trans e6
  have s06 := s03.trans s36
  have s08 := s06.trans s68
  have f8 := hf.ext s08
  have npl := new_ne (hf.ext s06) hpt
  have ndl := new_ne (hf.ext s06) hpd6
  obtain ⟨z1, z2, z3, hl8, _⟩ := id f8
  have sZ : Same (del H l) (Zd l pt pd H8) := fun a o h => by
    obtain ⟨h1, h2⟩ := del_at h
    have h6 := s06 _ _ h1
    exact zd_at (s68 _ _ h6) h2 (fun z => by rw [z, hpt] at h6; cases h6) (fun z => by rw [z, hpd6] at h6; cases h6)
  have off : ∀ {v : V} {d : PyData}, noL d = true → Dp K H8 v d → Dp K (Zd l pt pd H8) v d := fun n h => zd_off hl8 hpt8 hpd8 npl ndl npp n h
  have rok := dr.rings_ok
  have t0 : TD K l q ns pt pd H8 H8 [ringsD (csOf rs), ringsD (csOf rs)] [ringsD (csOf rs), ringsD (csOf rs)] := by
    obtain ⟨_, _, _, _, cq, _, _⟩ := hf
    have g1 := off rok.l (dp_same (e6.trans s68) d1)
    have g2 := off rok.l (dp_same s68 d2)
    have g3 := off rok.l (dp_same ((e5.trans e6).trans s68) dR)
    exact ⟨f8, sZ.seq cq, Same.refl _, npl, ndl, npp, ⟨_, hpt8, .cons g1 (.cons g2 .nil)⟩, ⟨_, hpd8, .cons g3 (.cons g3 .nil)⟩⟩
  have zTO := off (noL_rows rs) (dp_same ((e5.trans e6).trans s68) dTO4)
  have zTU := off (noL_rows rs.reverse) (dp_same ((e5.trans e6).trans s68) dTU4)
  have zvR := off rok.l (dp_same ((e5.trans e6).trans s68) dR)
  have zT := sZ _ _ hT
  have zw := wy.ext sZ
  generalize hRD : ringsD (csOf rs) = RD at t0 rok zvR
  clear d1 d2 dR dTO dTU dTO4 dTU4 wy3 hTO1 hTU3 e4 e5 e6 s1 s13 s03 s36 s06 s08 s68 hTO hpt hpd6 hx0 off hpt8 hpd8
  have wayZ : ∀ {G : Hp} {ds es : List PyData}, TD K l q ns pt pd H8 G ds es → WY (fun _ => none) (Zd l pt pd G) W ts la f := fun td => zw.ext td.s
  have getW : ∀ {G : Hp} {ds es : List PyData}, TD K l q ns pt pd H8 G ds es → ∀ {t : Str}, t ∈ ts → DGet G W (.str t) (some (.ref (la t))) ∧ G (la t) = some (.lst ((f t).map V.str)) := fun td t m => by
    have y := (wayZ td).ext (zd_le l pt pd _)
    exact ⟨y.get m, y.ls t m⟩
  have lf : ∀ t ∈ ts, (f t).length ≤ 60 := fun t m => rc_len dr.small (hw t m).1 (hw t m).2
  have sref : ∀ {ks : List Str} {t : Str}, t ∈ ts → ks.Nodup → (∀ z, z ∈ ks ↔ Rc (csOf rs) t z) → srt ks = srt (f t) := fun m nd h => srt_same nd (hw _ m).1 fun z => by rw [h, (hw _ m).2]
  dsimp only
  refine at_st [some (.ref l), some (.ref R), some (.ref TA), some (.ref W), some (.ref TO), some (.ref TU), some vR, some (.ref pt), some (.ref pd), none, none, none] rfl ?_
  refine ⟨_, rfl, TA, rfl, ⟨_, SqL.of (t0.at zT)⟩, ?_⟩
  refine for_list (K := K) (a := TA) (xs := ts.map V.str) (fun i σ G => ∃ (o9 : Option V) (ds : List PyData), σ = [some (.ref l), some (.ref R), some (.ref TA), some (.ref W), some (.ref TO), some (.ref TU), some vR, some (.ref pt), some (.ref pd), o9, none, none] ∧ TD K l q ns pt pd H8 G ds ds ∧ (∀ d ∈ ds, ItemOk d) ∧ ds.length ≤ 2 + i)
    ⟨none, _, rfl, t0, fun d m => by simp at m; rw [m]; exact rok, Nat.le_refl _⟩ ?_ ?_ ?_
  · rintro i σ G _ ⟨_, _, _, t, _⟩
    exact SqL.of (t.at zT)
  · rintro i v σ G hiv ⟨o9, ds, rfl, td, hds, lds⟩
    rw [List.getElem?_map] at hiv
    obtain ⟨t, hti, rfl⟩ := Option.map_eq_some_iff.mp hiv
    have mt := List.mem_of_getElem? hti
    have hil : i < ts.length := (List.getElem?_eq_some_iff.mp hti).1
    have h12 := dr.len
    dsimp only [gName]
    obtain ⟨xs1, hx1, hxd1⟩ := td.told
    refine ⟨_, rfl, .inl ⟨rfl, _, SqL.of hx1⟩, _, rfl, _, rfl, _, t, rowsD rs, rfl, td.dp zTO, dr.sz, dr.sheets, by rw [cs_rows]; exact dr.small, by rw [cs_rows, hcs]; exact mt, fun p G1 ks g1 hp1 nk ik => ?_⟩
    rw [cs_rows] at ik
    have iok := dr.reach_ok nk ik
    have td1 := td.ext g1
    have lx1 := dp_len hxd1
    have dp1 : Dp K G1 (.ref p) (.tuple ((srt ks).map .str)) := .tup (SqT.of hp1) (dpAll_str _)
    refine ⟨pt, xs1, _, rfl, rfl, g1 _ _ hx1, szl (by omega), ?_⟩
    have td2 := td1.putT (g1 _ _ hx1) iok.l dp1
    rw [sref mt nk ik] at td2 iok
    generalize upd G1 pt (.lst (xs1 ++ [.ref p])) = G2 at td2 ⊢
    obtain ⟨ys, hy, hyd⟩ := td2.due
    have ly := dp_len hyd
    obtain ⟨gw1, gw2⟩ := getW td2 mt
    refine ⟨_, rfl, .inl ⟨rfl, _, SqL.of hy⟩, _, rfl, _, rfl, W, _, rfl, gw1, la t, f t, rfl, SqL.of gw2, by have := lf t mt; omega, fun zs p2 hp2 hso hn2 => ?_⟩
    rw [srt_eq hp2 hso]
    refine ⟨p2, _, rfl, .inl ⟨SqL.of upd_same, fun q2 hq2 => ?_⟩⟩
    have a1 := same_new hn2 (.lst ((srt (f t)).map V.str))
    have a2 := same_new hq2 (.tup ((srt (f t)).map V.str))
    have hq3 : (upd (upd G2 p2 (.lst ((srt (f t)).map V.str))) q2 (.tup ((srt (f t)).map V.str))) q2 = some (.tup ((srt (f t)).map V.str)) := upd_same
    have a12 := a1.trans a2
    generalize upd (upd G2 p2 (.lst ((srt (f t)).map V.str))) q2 (.tup ((srt (f t)).map V.str)) = G3 at a12 hq3 ⊢
    have td3 := td2.ext a12
    refine ⟨pd, ys, _, rfl, rfl, a12 _ _ hy, szl (by omega), ?_⟩
    have td4 := td3.putD (a12 _ _ hy) iok.l (.tup (SqT.of hq3) (dpAll_str _))
    exact ⟨_, _, rfl, td4, fun d m => (List.mem_append.mp m).elim (hds d) fun m => by rw [List.mem_singleton.mp m]; exact iok, by rw [List.length_append]; show _ + 1 ≤ _; omega⟩
  · rintro σ G ⟨o9, ds, rfl, td, hds, lds⟩
    rw [List.length_map] at lds
    have h12 := dr.len
    refine ⟨_, rfl, (by show 0 ≤ sizeLine; decide), fun pe hpe => ?_⟩
    have se := same_new hpe (.lst [])
    have hTG := td.at zT
    have dT2 : Dp K (upd G pe (.lst [])) (.ref TA) (.list (ts.map .str)) := .lst (SqL.of (se _ _ hTG)) (dpAll_str _)
    have td1 := td.ext se
    refine ⟨.list (ts.map .str), .list [], dT2, .lst (SqL.of upd_same) .nil, shaped_names dr.tn, rfl, .inr ⟨_, rfl, _, _, rfl, rfl, .inl ⟨by decide, by decide⟩, _, rfl, ?_⟩⟩
    generalize upd G pe (.lst []) = G1 at td1 ⊢
    clear td hTG dT2 se hpe
    have hb : ∃ n6 : Nat, (6 : Int) * (if (!PyData.eqv (.list (ts.map .str)) (.list [])) = true then 1 else 0) = (n6 : Int) ∧ n6 ≤ 6 ∧ (0 < n6 → ts ≠ []) := by
      cases ts with
      | nil => exact ⟨0, rfl, by decide, fun z => absurd z (by decide)⟩
      | cons a r => exact ⟨6, rfl, by decide, fun _ z => nomatch z⟩
    obtain ⟨n6, e6, l6, ne6⟩ := hb
    rw [e6]
    refine ⟨by omega, by omega, ?_⟩
    refine for_range (lo := 0) (n := ((n6 : Nat) : Int).toNat) (fun i σ G => ∃ (o9 o10 o11 : Option V) (ds : List PyData), σ = [some (.ref l), some (.ref R), some (.ref TA), some (.ref W), some (.ref TO), some (.ref TU), some vR, some (.ref pt), some (.ref pd), o9, o10, o11] ∧ TD K l q ns pt pd H8 G ds ds ∧ (∀ d ∈ ds, ItemOk d) ∧ ds.length ≤ 14 + 3 * i)
      ⟨o9, none, none, ds, rfl, td1, hds, by omega⟩ ?_ ?_
    · rintro i σ G0 hi ⟨o9, o10, o11, ds, rfl, td, hds, lds⟩
      have hne := ne6 (by omega)
      have hpos : 0 < ts.length := List.length_pos_iff.mpr hne
      rw [Int.zero_add]
      have lT : ((ts.map V.str).length : Int) = (ts.length : Int) := by rw [List.length_map]
      have hi6 : i < 6 := by omega
      refine ⟨_, rfl, _, rfl, _, rfl, TA, _, rfl, .inl (SqL.of (td.at zT)), l, _, q, ns, rfl, td.f, by omega, by omega, fun r1 G1 r10 r11 g1 k1 => ?_⟩
      have td1 := td.draw g1 k1
      obtain ⟨x1, rfl⟩ := Int.eq_ofNat_of_zero_le r10
      obtain ⟨one, _, m1, az1⟩ := strs_at' (l := ts) (k := x1) (by omega)
      refine ⟨TA, _, _, _, rfl, rfl, SqL.of (td1.at zT), az1, ?_⟩
      refine ⟨_, rfl, _, rfl, _, rfl, TA, _, rfl, .inl (SqL.of (td1.at zT)), l, _, q, ns, rfl, td1.f, by omega, by omega, fun r2 G2 r20 r21 g2 k2 => ?_⟩
      have td2 := td1.draw g2 k2
      obtain ⟨x2, rfl⟩ := Int.eq_ofNat_of_zero_le r20
      obtain ⟨oth, _, m2, az2⟩ := strs_at' (l := ts) (k := x2) (by omega)
      refine ⟨TA, _, _, _, rfl, rfl, SqL.of (td2.at zT), az2, ?_⟩
      clear td td1
      dsimp only [gName]
      refine at_st [some (.ref l), some (.ref R), some (.ref TA), some (.ref W), some (.ref TO), some (.ref TU), some vR, some (.ref pt), some (.ref pd), some (.str one), some (.int (i : Int)), some (.str oth)] rfl ?_
      -- one call
      obtain ⟨xs1, hx1, hxd1⟩ := td2.told
      have lx1 := dp_len hxd1
      refine ⟨_, rfl, .inl ⟨rfl, _, SqL.of hx1⟩, _, rfl, _, rfl, _, rfl, _, one, oth, rowsD rs, rfl, td2.dp zTO, dr.sz, dr.sheets, by rw [cs_rows]; exact dr.small, by rw [cs_rows, hcs]; exact m1, by rw [cs_rows, hcs]; exact m2, fun b G3 g3 hb3 => ?_⟩
      rw [cs_rows] at hb3
      have td3 := td2.ext g3
      refine ⟨pt, xs1, _, rfl, rfl, g3 _ _ hx1, szl (by omega), ?_⟩
      have td4 := td3.putT (g3 _ _ hx1) (item_bool b).l (.bl b)
      generalize upd G3 pt (.lst (xs1 ++ [.bl b])) = G4 at td4 ⊢
      obtain ⟨ys1, hy1, hyd1⟩ := td4.due
      have ly1 := dp_len hyd1
      obtain ⟨gw1, gw2⟩ := getW td4 m2
      dsimp only
      refine put_v (.bl b) rfl hy1 (szl (by omega)) (fun Q' hq => ?_) ?_
      · refine ⟨_, rfl, _, rfl, rfl, _, rfl, ?_⟩
        refine ite2 (fun c => ?_) (fun c => ?_)
        · have e1 : one = oth := V.str.inj (of_decide_eq_true c)
          rw [hb3.mpr (.inl e1)] at hq
          exact hq
        · have c' : ¬ one = oth := fun z => c (decide_eq_true (congrArg V.str z))
          refine ⟨_, rfl, _, rfl, _, rfl, W, _, rfl, gw1, la oth, _, rfl, .inl (SqL.of gw2), rfl, flat_strs _, ?_⟩
          have e2 : inV (.str one) ((f oth).map V.str) = b := by
            rw [in_strs, Bool.eq_iff_iff, decide_eq_true_iff, (hw oth m2).2, hb3]
            exact ⟨.inr, fun z => z.resolve_left c'⟩
          show Q' (.bl (inV (.str one) ((f oth).map V.str))) G4
          rw [e2]; exact hq
      have td5 := td4.putD hy1 (item_bool b).l (.bl b)
      generalize upd G4 pd (.lst (ys1 ++ [.bl b])) = G5 at td5 ⊢
      clear td2 td3 td4 gw1 gw2 hx1 hxd1 hy1 hyd1
      -- the same turned
      obtain ⟨xs2, hx2, hxd2⟩ := td5.told
      have lx2 := dp_len hxd2
      rw [List.length_append] at lx2
      have l1 : [PyData.bool b].length = 1 := rfl
      refine ⟨_, rfl, .inl ⟨rfl, _, SqL.of hx2⟩, _, rfl, _, rfl, _, rfl, _, oth, one, rowsD rs.reverse, rfl, td5.dp zTU, drr.sz, drr.sheets, by rw [cs_rows]; exact drr.small, by rw [cs_rows]; exact (pr.map _).mem_iff.mpr (by rw [hcs]; exact m2), by rw [cs_rows]; exact (pr.map _).mem_iff.mpr (by rw [hcs]; exact m1), fun b2 G6 g6 hb6 => ?_⟩
      rw [cs_rows, rc_perm pr ndr] at hb6
      have td6 := td5.ext g6
      refine ⟨pt, xs2, _, rfl, rfl, g6 _ _ hx2, szl (by omega), ?_⟩
      have td7 := td6.putT (g6 _ _ hx2) (item_bool b2).l (.bl b2)
      generalize upd G6 pt (.lst (xs2 ++ [.bl b2])) = G7 at td7 ⊢
      obtain ⟨ys2, hy2, hyd2⟩ := td7.due
      have ly2 := dp_len hyd2
      rw [List.length_append] at ly2
      obtain ⟨gw1, gw2⟩ := getW td7 m1
      dsimp only
      refine put_v (.bl b2) rfl hy2 (szl (by omega)) (fun Q' hq => ?_) ?_
      · refine ⟨_, rfl, _, rfl, rfl, _, rfl, ?_⟩
        refine ite2 (fun c => ?_) (fun c => ?_)
        · have e1 : one = oth := V.str.inj (of_decide_eq_true c)
          rw [hb6.mpr (.inl e1.symm)] at hq
          exact hq
        · have c' : ¬ oth = one := fun z => c (decide_eq_true (congrArg V.str z.symm))
          refine ⟨_, rfl, _, rfl, _, rfl, W, _, rfl, gw1, la one, _, rfl, .inl (SqL.of gw2), rfl, flat_strs _, ?_⟩
          have e2 : inV (.str oth) ((f one).map V.str) = b2 := by
            rw [in_strs, Bool.eq_iff_iff, decide_eq_true_iff, (hw one m1).2, hb6]
            exact ⟨.inr, fun z => z.resolve_left c'⟩
          show Q' (.bl (inV (.str oth) ((f one).map V.str))) G7
          rw [e2]; exact hq
      have td8 := td7.putD hy2 (item_bool b2).l (.bl b2)
      generalize upd G7 pd (.lst (ys2 ++ [.bl b2])) = G8 at td8 ⊢
      clear td5 td6 td7 gw1 gw2 hx2 hxd2 hy2 hyd2
      -- what the other one reaches
      obtain ⟨xs3, hx3, hxd3⟩ := td8.told
      have lx3 := dp_len hxd3
      rw [List.length_append, List.length_append] at lx3
      have l2 : [PyData.bool b2].length = 1 := rfl
      refine ⟨_, rfl, .inl ⟨rfl, _, SqL.of hx3⟩, _, rfl, _, rfl, _, oth, rowsD rs.reverse, rfl, td8.dp zTU, drr.sz, drr.sheets, by rw [cs_rows]; exact drr.small, by rw [cs_rows]; exact (pr.map _).mem_iff.mpr (by rw [hcs]; exact m2), fun p G9 ks g9 hp9 nk ik => ?_⟩
      rw [cs_rows] at ik
      have ik2 : ∀ z, z ∈ ks ↔ Rc (csOf rs) oth z := fun z => by rw [ik, rc_perm pr ndr]
      have iok := dr.reach_ok nk ik2
      have td9 := td8.ext g9
      have dp9 : Dp K G9 (.ref p) (.tuple ((srt ks).map .str)) := .tup (SqT.of hp9) (dpAll_str _)
      refine ⟨pt, xs3, _, rfl, rfl, g9 _ _ hx3, szl (by omega), ?_⟩
      have tdA := td9.putT (g9 _ _ hx3) iok.l dp9
      rw [sref m2 nk ik2] at tdA iok
      generalize upd G9 pt (.lst (xs3 ++ [.ref p])) = GA at tdA ⊢
      obtain ⟨ys, hy, hyd⟩ := tdA.due
      have ly := dp_len hyd
      rw [List.length_append, List.length_append] at ly
      obtain ⟨gw1, gw2⟩ := getW tdA m2
      refine ⟨_, rfl, .inl ⟨rfl, _, SqL.of hy⟩, _, rfl, _, rfl, W, _, rfl, gw1, la oth, f oth, rfl, SqL.of gw2, by have := lf oth m2; omega, fun zs p2 hp2 hso hn2 => ?_⟩
      rw [srt_eq hp2 hso]
      refine ⟨p2, _, rfl, .inl ⟨SqL.of upd_same, fun q2 hq2 => ?_⟩⟩
      have a1 := same_new hn2 (.lst ((srt (f oth)).map V.str))
      have a2 := same_new hq2 (.tup ((srt (f oth)).map V.str))
      have hq3 : (upd (upd GA p2 (.lst ((srt (f oth)).map V.str))) q2 (.tup ((srt (f oth)).map V.str))) q2 = some (.tup ((srt (f oth)).map V.str)) := upd_same
      have a12 := a1.trans a2
      generalize upd (upd GA p2 (.lst ((srt (f oth)).map V.str))) q2 (.tup ((srt (f oth)).map V.str)) = GB at a12 hq3 ⊢
      have tdB := tdA.ext a12
      refine ⟨pd, ys, _, rfl, rfl, a12 _ _ hy, szl (by omega), ?_⟩
      have tdC := tdB.putD (a12 _ _ hy) iok.l (.tup (SqT.of hq3) (dpAll_str _))
      refine ⟨_, _, _, _, rfl, tdC, fun d m => ?_, ?_⟩
      · simp only [List.mem_append, List.mem_singleton] at m
        rcases m with ((m | m) | m) | m
        · exact hds d m
        · rw [m]; exact item_bool b
        · rw [m]; exact item_bool b2
        · rw [m]; exact iok
      · simp only [List.length_append, List.length_singleton]; omega
    · rintro σ G0 ⟨o9, o10, o11, ds, rfl, td, hds, lds⟩
      rw [Int.toNat_natCast] at lds
      obtain ⟨xs1, hx1, hxd1⟩ := td.told
      have lx1 := dp_len hxd1
      dsimp only
      refine ⟨_, rfl, .inl ⟨rfl, _, SqL.of hx1⟩, _, rfl, _, rowsD rs, rfl, td.dp zTO, dr.sz, dr.sheets, by rw [cs_rows]; exact dr.small, by rw [cs_rows]; exact ndc, fun v G1 g1 hv => ?_⟩
      rw [cs_rows, hRD] at hv
      have td1 := td.ext g1
      refine ⟨pt, xs1, _, rfl, rfl, g1 _ _ hx1, szl (by omega), ?_⟩
      have td2 := td1.putT (g1 _ _ hx1) rok.l hv
      generalize upd G1 pt (.lst (xs1 ++ [v])) = G2 at td2 ⊢
      refine ⟨_, rfl, _, rfl, _, rfl, (by show 1 ≤ sizeLine; decide), fun p1 hp1 => ?_⟩
      have a1 := same_new hp1 (.lst [vR])
      have hp1' : (upd G2 p1 (.lst [vR])) p1 = some (.lst [vR]) := upd_same
      have td3 := td2.ext a1
      generalize upd G2 p1 (.lst [vR]) = G3 at td3 hp1' ⊢
      obtain ⟨ys, hy, hyd⟩ := td3.due
      obtain ⟨zs, hz, hzd⟩ := td3.told
      have ly := dp_len hyd
      refine ⟨pd, p1, ys, [vR], rfl, rfl, hy, hp1', by rw [ly]; exact Nat.le_of_lt (szl (by show ds.length + 1 ≤ _; omega)), fun p2 hp2 => ?_⟩
      have a2 := same_new hp2 (.lst (ys ++ [vR]))
      have td4 := td3.ext a2
      refine ⟨.ref pt, .ref p2, .list (ds ++ [RD]), rfl, .lst (SqL.of (a2 _ _ hz)) (dpAll_same ((zd_le l pt pd _).trans a2) hzd), .lst (SqL.of upd_same) (dpAll_app (dpAll_same ((zd_le l pt pd _).trans a2) hyd) (td4.dp zvR)), items_rp (fun d m => ?_) ?_, ?_⟩
      · rcases List.mem_append.mp m with m | m
        · exact hds d m
        · rw [List.mem_singleton.mp m]; exact rok
      · rw [List.length_append]; show _ + 1 ≤ 60; omega
      · exact k _ ⟨td4.f, sZ.trans (td4.s.trans ((del_le _ pd).trans (del_le _ pt)))⟩
end
end Lk

set_option Elab.async false
set_option linter.all false
set_option maxRecDepth 100000
set_option maxHeartbeats 4000000
namespace Lk
open PySem PySem.Spec PyProof.Rows L2
/-! ### a try with several clauses `except x as n` -/
abbrev Cl := Value × Nat × (Addr → Value → Option Addr → TS)
/-- what the clauses ask, one behind the other -/
def wFew (K : PySem.W.Frag) (Wo : WX) (D : Ends) : List Cl → WX
  | [] => Wo
  | c :: r => wAs K c.1 c.2.1 c.2.2 (wFew K Wo D r) D
inductive Few (X : Cx) : List ExceptHandler → List Cl → Prop
  | nil : Few X [] []
  | cons {x n : Str} {i : Nat} {c : Value} {ts : Addr → Value → Option Addr → TS} {b : Stmt} {bs : List Stmt} {p q : Pos} {hs : List ExceptHandler} {l : List Cl} (hc : Names X x c) (hi : X.N[i]? = some n) (hl : X.env.kindOf n = some .local)
      (go : ∀ (a : Addr) (oe : Obj) (cls : Value) (d : Option Addr) (pn : List (Addr × Obj)), Zc cls d oe → (∃ vs, oe.data = .fields vs) → PSs (X.suite a ((a, oe) :: pn)) (b :: bs) (ts a cls d)) (r : Few X hs l) :
      Few X (.ExceptHandler (some (.Name x p)) (some n) (b :: bs) q :: hs) ((c, i, ts) :: l)
section
variable {X : Cx} {body : List Stmt} {h : ExceptHandler} {hs : List ExceptHandler} {l : List Cl} {pos : Pos} {tb : WX → TS} {Wo : WX}
theorem ps_try_few (st : X.stack = X.env :: X.outer) (fr : X.env.frame = some X.env.locals) (nd : X.N.Nodup) (tk : Takes X Wo)
    (bd : ∀ (W : WX) (pn : List (Addr × Obj)) (xe : Value → Shared → Prop), Takes (X.tr pn xe) W → PassesOwn (model X.prog X.w) X.A X.env xe → PSs (X.tr pn xe) body (tb W))
    (hh : Few X (h :: hs) l) : PS X (.Try body (h :: hs) [] [] pos) (fun D σ H => tb (wFew X.K Wo D l) D σ H) := by
  constructor
  intro pins s σ H D I hw
  have ok := I.ok
  have frs0 : X.A.frames = some (X.env :: X.outer) := ok.frames.trans (congrArg some st)
  apply wpAny_Try_except
  have run := (bd (wFew X.K Wo D l) (X.pn ++ pins) (fun e t1 => wpAny (model X.prog X.w) X.A (noteFrame e X.env) (fun _ t2 => wpAny (model X.prog X.w) X.A (setFlight e none) (fun _ t3 => wpAny (model X.prog X.w) X.A (handleBy e X.env (h :: hs)) (SP X pins D) X.xe t3) X.xe t2) X.xe t1) ?_ PassesOwn.looking).run [] s σ H D (I.toTry _) hw
  · refine wpAny_mono run (fun f t z => ?_) (fun _ _ z => z)
    cases f with
    | next => obtain ⟨σ1, H1, J1, q⟩ := z; exact wpAny_execs_nil ⟨σ1, H1, J1.ofTry ok, q⟩
    | brk => obtain ⟨σ1, H1, J1, q⟩ := z; exact ⟨σ1, H1, J1.ofTry ok, q⟩
    | cont => obtain ⟨σ1, H1, J1, q⟩ := z; exact ⟨σ1, H1, J1.ofTry ok, q⟩
    | ret u => obtain ⟨v, σ1, H1, J1, r, q⟩ := z; exact ⟨v, σ1, H1, J1.ofTry ok, r, q⟩
  · rintro u t ⟨a, B, sI, pins1, σ1, H1, cls, d, rfl, J0, nb, up, sky, na, os, ag, wf⟩
    have J : Inv X pins σ1 H1 sI := J0.ofTry ok
    have sk : Sky B (X.env :: X.outer) a (Zc cls d) X.env.locals t.heap := st ▸ sky
    show wpAny (model X.prog X.w) X.A (noteFrame (.ref a) X.env) _ _ _
    refine Sky.land Zc.steady frs0 fr sk fun h3 fl up3 => ?_
    have J3 : Inv X pins σ1 H1 { t with heap := h3 } := J.landed nb fl.1 (up.trans up3) os ag
    obtain ⟨o3, v3, at3, z3, d3⟩ := fl.there
    have far : a ∉ frs (X.env :: X.outer) := fun m => by
      obtain ⟨_, o4, q1, q2⟩ := fl.2.2.1.mem m
      rw [at3] at q1; cases q1
      exact q2 _ d3
    have farL : a ≠ X.env.locals := fun z => far (List.mem_filterMap.mpr ⟨X.env, List.mem_cons_self, fr.trans (congrArg some z.symm)⟩)
    have farF : a ∉ X.fs := fun m => by
      obtain ⟨e, m1, m2⟩ := List.mem_filterMap.mp m
      exact far (List.mem_filterMap.mpr ⟨e, List.mem_cons_of_mem _ m1, m2⟩)
    have S3 := J3.suite at3 d3 na farL farF
    suffices go : ∀ {gs : List ExceptHandler} {m : List Cl}, Few X gs m → wFew X.K Wo D m cls d σ1 H1 → wpAny (model X.prog X.w) X.A (handleBy (.ref a) X.env gs) (SP X pins D) X.xe { t with heap := h3 } from go hh wf
    intro gs m few
    induction few with
    | nil =>
      intro w
      apply wpAny_handleBy_nil
      obtain ⟨_, _, _, o5, v5, T5, oT5, ts5, e5, _, dt5, f5, _⟩ := id fl
      unfold PySem.passOn
      refine wpAny_bind (wpAny_field e5 dt5 f5 ?_)
      have nn : ¬ ((Value.ref T5 == Value.none) = true) := by simp
      rw [if_neg nn]
      have out : wpAny (model X.prog X.w) X.A (setFlight (.ref a) X.env.frame) (fun _ t4 => wpAny (model X.prog X.w) X.A (throw (.ref a) : Sem Flow) (SP X pins D) X.xe t4) X.xe { t with heap := h3 } := by
        rw [fr]
        exact HandSPX.setFlight_upZ fl fun h4 hh4 up4 => wpAny_throw (tk _ _ ⟨a, B, sI, pins, σ1, H1, cls, d, rfl, J, nb, (up.trans up3).trans up4, .inr (.inr (by rw [st]; exact hh4)), na, os, ag, w⟩)
      first | exact wpAny_bind (wpAny_pure (wpAny_bind out)) | exact wpAny_bind out
    | @cons x n i c ts b bs p q hs2 l2 hc hi hl act r ih =>
      intro w
      obtain ⟨y, ey, yes, no⟩ := w
      refine wpAny_handleBy_cons (codeAny_handlers_test ?_) (by intro z; cases z)
      have look : PySem.W.Looks (model X.prog X.w) h3 (typeOf (.ref a)) cls := fun A Q E s k q => wpAny_typeOf_ref (k _ _ at3) (by rw [z3.1]; exact q)
      have hit := PySem.W.exm_one (M := model X.prog X.w) (J3.kIn) look ey
      have name : ∀ {Q E : Value → Shared → Prop}, Q c { t with heap := h3 } → wpAny (model X.prog X.w) (X.A.mark (some (.ref a))) (eval (.Name x p) X.env) Q E { t with heap := h3 } := fun {Q E} z => by
        obtain ⟨g1, g2, g3 | ⟨g3, g4, g5⟩⟩ := hc
        · exact ld_glob (X := X.suite a ((a, o3) :: (X.pn ++ pins))) S3 g1 g3 z g2
        · exact ld_blt (X := X.suite a ((a, o3) :: (X.pn ++ pins))) S3 g1 g3 g4 z g5 g2
      refine name (hit.here ?_)
      cases y with
      | false => exact ih (no rfl)
      | true =>
        refine codeAny_handlers_suite_as (HandSPX.lands_againZ fl fun h4 fl4 up4 => ?_)
        have J4 : Inv X pins σ1 H1 { t with heap := h4 } := J.landed nb fl4.1 ((up.trans up3).trans up4) os ag
        obtain ⟨o4, v4, at4, z4, d4⟩ := fl4.there
        have S4 := J4.suite at4 d4 na farL farF
        refine store_ok (X := X.suite a ((a, o4) :: (X.pn ++ pins))) (v := .ref a) S4 nd hi (.inl hl) rfl (fun t5 S5 => ?_) (.inr hl)
        refine wpAny_mono ((act a o4 cls d (X.pn ++ pins) z4 ⟨_, d4⟩).run [] t5 _ H1 _ S5 (yes rfl a na)) (fun f t6 z => ?_) (fun _ _ z => False.elim z)
        have away : ∀ {σ6 : L2.St} {H6 : Hp} {Q : Shared → Prop}, Inv (X.suite a ((a, o4) :: (X.pn ++ pins))) [] σ6 H6 t6 → (∀ t7, Inv X pins (σ6.set i none) H6 t7 → Q t7) →
            wpAny (model X.prog X.w) X.A (do bindName X.env n .none; unbindBehindTheSuite X.env n q) (fun _ t7 => Q t7) X.xe t6 := fun {σ6 H6 Q} S6 k => gone_ok (S6.unsuite ok) nd hi hl k
        cases f with
        | next => obtain ⟨σ6, H6, S6, k⟩ := z; exact away S6 fun t7 J7 => ⟨_, _, J7, k⟩
        | brk => obtain ⟨σ6, H6, S6, k⟩ := z; exact away S6 fun t7 J7 => ⟨_, _, J7, k⟩
        | cont => obtain ⟨σ6, H6, S6, k⟩ := z; exact away S6 fun t7 J7 => ⟨_, _, J7, k⟩
        | ret u => obtain ⟨v6, σ6, H6, S6, r6, k⟩ := z; exact away S6 fun t7 J7 => ⟨_, _, _, J7, r6, k⟩
end
end Lk

set_option Elab.async false
set_option linter.all false
set_option maxRecDepth 100000
set_option maxHeartbeats 4000000
set_option pp.maxSteps 1500
namespace Lk
open PySem PySem.Spec PyProof.Rows L2
/-! ### exceptions whose context is none are exceptions -/
theorem traced_imp {h base : Heap} {e : Addr} {Z Z' : Obj → Prop} {fl : Value} (i : ∀ o, Z o → Z' o) (t : HandSPX.TracedZ h base e Z fl) : HandSPX.TracedZ h base e Z' fl := by
  obtain ⟨oe, vs, T, oT, ts, h1, h2, r⟩ := t
  exact ⟨oe, vs, T, oT, ts, h1, i oe h2, r⟩
theorem cx_c {P : Program} {w : World} {outer : List Env} {H : Hp} {s : Shared} {E : XK} {u : Value} {s' : Shared} (c : L2N.CX P w outer H s E u s') : L2.CX P w outer H s E u s' := by
  obtain ⟨a, B, H', cls, d, e, ⟨f1, f2, f3, f4⟩, r⟩ := c
  exact ⟨a, B, H', cls, d, e, ⟨f1, f2, f3, traced_imp (fun _ z => L2N.Zn.zc z) f4⟩, r⟩
theorem fn_c {P : Program} {w : World} {K : PySem.W.Frag} {mg : Str → Option Value} {base : Heap} {k : Nat} {f : Addr} {fd : FuncData} {ps : List Str} {sp : Sp} (F : FnOk P w K mg base (L2N.CX P w) k f fd ps sp) : FnOk P w K mg base (L2.CX P w) k f fd ps sp :=
  ⟨F.len, fun A outer s H args us vs Q E hr e0 hb hv hs => codeAny_mono (F.run A outer s H args us vs Q E hr e0 hb hv hs) fun r s' z => by
    match r, z with
    | .error e, z => exact cx_c z
    | .ok (.ret _), z => exact z
    | .ok .next, z => exact z
    | .ok .brk, z => exact z
    | .ok .cont, z => exact z⟩
theorem takes_len {X : Cx} {W : WX} (t : Takes X W) : Takes X (fun c d σ H => σ.length = X.N.length → W c d σ H) := fun u s' ⟨a, B, sI, pins, σ, H, cls, d, e, I, nb, up, sky, na, os, ag, w⟩ => t u s' ⟨a, B, sI, pins, σ, H, cls, d, e, I, nb, up, sky, na, os, ag, w I.len⟩
/-- what is said of the exceptions that the asked one lets out -/
def saidOf (M C : Addr) (Q : VK) : XK := fun cls d H' =>
  (∃ (dd : Addr) (v : V), cls = .ref M ∧ d = some dd ∧ H' dd = some (.xd [("title", v)]) ∧ ∀ p H'', Same H' H'' → H'' p = some (.tup [.str "missing", v]) → Q (.ref p) H'') ∨
  ∃ (dd : Addr) (n : Str), cls = .ref C ∧ d = some dd ∧ H' dd = some (.xd [("at", .int (-1)), ("word", .str n)]) ∧ ∀ p H'', Same H' H'' → H'' p = some (.tup [.str "refused", .str n, .int (-1)]) → Q (.ref p) H''
def TTSaid (M C : Addr) : (XK → Hp → VK → Prop) → Hp → VK → Prop := fun tl H Q => tl (saidOf M C Q) H fun v H2 => [V.str "told", v].length ≤ sizeLine ∧ ∀ p, H2 p = none → Q (.ref p) (upd H2 p (.tup [.str "told", v]))
def saidT0 {K : PySem.W.Frag} {mg : Str → Option Value} (T : Txt K mg) (a : Addr) (cls : Value) (d : Option Addr) : TS := (tSeq (tIfS (tOr (tNot (tB (tCB (rIsX K a cls d) (tCons (tVar 1) (tCons (tC (.ref T.C_Missing)) tNil))))) (tOr (tB (tCB (rIsX K a cls d) (tCons (tVar 1) (tCons (tC (.ref T.C_UnitError)) tNil)))) (tNot (tB (tCB (rIsX K a cls d) (tCons (tVar 1) (tCons (tC (.ty "ValueError")) tNil))))))) (tRet (tTup (tCons (tC (.str "another error")) tNil))) tNext) (tRet (tTup (tCons (tC (.str "missing")) (tCons (tXf a cls d T.C_Missing "title" (tVar 1)) tNil)))))
def saidT1 {K : PySem.W.Frag} {mg : Str → Option Value} (T : Txt K mg) (a : Addr) (cls : Value) (d : Option Addr) : TS := (tRet (tTup (tCons (tC (.str "refused")) (tCons (tXf a cls d T.C_NotUsable "word" (tVar 1)) (tCons (tXf a cls d T.C_NotUsable "at" (tVar 1)) tNil)))))
theorem said_gives {X : Cx} (T : Txt X.K X.mg) {k : Nat} (hr0 : Room (k + 1) X.A) {g : Addr} {cdg : Value} {q : Str} :
    LamX.GivesTo X sl__law_said "_law_said" (defScope s__law_said) g cdg (defBody s__law_said) "_law_ask" q (TTSaid T.C_Missing T.C_NotUsable) := by
  intro f c' s H Q tl act hc h
  have hr := hr0.deeper (envOfC "_law_said" (defScope s__law_said) s.heap.objs.size g cdg)
  have nd := sc__law_said.nd
  refine ⟨_, pss_one (ps_try_few (X := (cxOf C8.CX0 X.prog X.w X.K X.mg X.base sl__law_said "_law_said" (defScope s__law_said) g cdg X.A X.stack s H C8.E0).nox) (Wo := fun _ _ _ _ => False)
      (l := [(.ref T.C_LinkError, 1, saidT0 T), (.ref T.C_NotUsable, 1, saidT1 T)])
      (tb := fun W D σ H => ∃ Ech : XK, (∀ cls d σ' H', σ'.length = 2 → Ech cls d H' → W cls d σ' H') ∧ σ[0]? = some (some (.ref f)) ∧ H c' = some (LamX.CodeO c' q) ∧ tl Ech H fun v H2 => [V.str "told", v].length ≤ sizeLine ∧ ∀ p, H2 p = none → D.rt (.ref p) (upd H2 p (.tup [.str "told", v])))
      rfl rfl nd LamX.takes0 (fun W pn xe tk _ => ?_) ?_), ?_⟩
  · refine ⟨fun pins s' σ H' D I h' => ?_⟩
    obtain ⟨Ech, hW, h1, h2, h3⟩ := h'
    exact (pss_one (ps_ret (pe_tup (pa_cons pe_str (pa_cons (act _ pn xe Ech _ _ (takes_len tk) fun cls d σ' H' he hl => hW cls d σ' H' hl he) pa_nil))))).run pins s' σ H' D I ⟨h1, h2, h3⟩
  · refine .cons ⟨rfl, by decide, Or.inl T.mC_LinkError⟩ rfl rfl (fun a oe cls d pn hz hf => ?_) (.cons ⟨rfl, by decide, Or.inl T.mC_NotUsable⟩ rfl rfl (fun a oe cls d pn hz hf => ?_) .nil)
    · exact (pss_cons (ps_if (PW.pt (pw_or (pt_not (pt_val (pe_callB (call_isX hz hf) (by rfl) T.z_isinstance (by decide +kernel) (pa_cons (pv 1) (pa_cons (pe_glob (v := .ref T.C_Missing) rfl T.mC_Missing rfl) pa_nil))))) (pw_or (pt_val (pe_callB (call_isX hz hf) (by rfl) T.z_isinstance (by decide +kernel) (pa_cons (pv 1) (pa_cons (pe_glob (v := .ref T.C_UnitError) rfl T.mC_UnitError rfl) pa_nil)))) (pw_or1 (pt_not (pt_val (pe_callB (call_isX hz hf) (by rfl) T.z_isinstance (by decide +kernel) (pa_cons (pv 1) (pa_cons (pe_bltn (v := .ty "ValueError") rfl T.z_ValueError (by decide +kernel) rfl) pa_nil))))))))) (pss_one (ps_ret (pe_tup (pa_cons pe_str pa_nil)))) pss_nil)
      (pss_one (ps_ret (pe_tup (pa_cons pe_str (pa_cons (by exact (pe_xf T.xf_Missing T.n_Missing_title hz hf (pv 1))) pa_nil))))))
    · exact (pss_one (ps_ret (pe_tup (pa_cons pe_str (pa_cons (by exact (pe_xf T.xf_NotUsable T.n_NotUsable_word hz hf (pv 1))) (pa_cons (by exact (pe_xf T.xf_NotUsable T.n_NotUsable_at hz hf (pv 1))) pa_nil))))))
  · refine ⟨saidOf T.C_Missing T.C_NotUsable Q, fun cls d σ' H' hl hs => ?_, rfl, hc, h⟩
    obtain ⟨x0, x1, rfl⟩ : ∃ x0 x1, σ' = [x0, x1] := by
      match σ', hl with
      | [x0, x1], _ => exact ⟨x0, x1, rfl⟩
    rcases hs with ⟨dd, v, e1, e2, hxd, kk⟩ | ⟨dd, n, e1, e2, hxd, kk⟩
    · subst e1 e2
      refine ⟨true, T.ex_Missing_LinkError, fun _ a ha => ?_, fun z => Bool.noConfusion z⟩
      refine ⟨_, rfl, T.C_Missing, dd, _, _, _, _, rfl, rfl, hxd, T.xk_Missing, rfl, .own _, T.is_Missing_Missing, _, rfl, iteF ?_⟩
      refine ⟨_, rfl, T.C_Missing, dd, _, _, _, _, rfl, rfl, hxd, T.xk_Missing, rfl, .own _, T.is_Missing_UnitError, _, rfl, iteF ?_⟩
      refine ⟨_, rfl, T.C_Missing, dd, _, _, _, _, rfl, rfl, hxd, T.xk_Missing, rfl, .ty _, T.is_Missing_ValueError, _, rfl, iteF ?_⟩
      refine ⟨_, rfl, rfl, rfl, dd, _, _, rfl, hxd, rfl, (by show 2 ≤ sizeLine; decide), fun p5 hp5 => ?_⟩
      exact kk p5 _ (same_new hp5 _) upd_same
    · subst e1 e2
      refine ⟨false, T.ex_NotUsable_LinkError, fun z => Bool.noConfusion z, fun _ => ⟨true, T.ex_NotUsable_NotUsable, fun _ a ha => ?_, fun z => Bool.noConfusion z⟩⟩
      refine ⟨_, rfl, rfl, rfl, dd, _, _, rfl, hxd, rfl, _, rfl, rfl, rfl, dd, _, _, rfl, hxd, rfl, (by show 3 ≤ sizeLine; decide), fun p5 hp5 => ?_⟩
      exact kk p5 _ (same_new hp5 _) upd_same
end Lk

set_option Elab.async false
set_option linter.all false
set_option maxRecDepth 100000
set_option maxHeartbeats 4000000
namespace Lk
open PySem PySem.Spec PyProof.Rows L2
/-! ### all but the tables of code objects, and all but one list that is filled on the way -/
def noTb (H : Hp) : Hp := fun b => match H b with
  | some (.tbl _) => none
  | o => o
theorem noTb_some {H : Hp} {b : Addr} {o : HO} (h : H b = some o) (n : ∀ ps, o ≠ .tbl ps) : noTb H b = some o := by
  unfold noTb
  rw [h]
  cases o with
  | tbl ps => exact absurd rfl (n ps)
  | _ => rfl
theorem noTb_le (H : Hp) : Same (noTb H) H := fun b o e => by
  unfold noTb at e
  cases h : H b with
  | none => rw [h] at e; cases e
  | some u =>
    rw [h] at e
    cases u with
    | tbl ps => cases e
    | _ => exact e
theorem noTb_notb {H : Hp} {b : Addr} {o : HO} (e : noTb H b = some o) : ∀ ps, o ≠ .tbl ps := fun ps z => by
  unfold noTb at e
  subst z
  cases h : H b with
  | none => rw [h] at e; cases e
  | some u =>
    rw [h] at e
    cases u with
    | tbl ps => cases e
    | _ => cases e
theorem noTb_ext {H H' : Hp} (x : LamX.ExtN H H') : Same (noTb H) (noTb H') := fun b o e => noTb_some (x b o (noTb_le H b o e) (noTb_notb e)) (noTb_notb e)
theorem seqT_tb {K : PySem.W.Frag} {H : Hp} {a : Addr} {xs : List V} (h : SqT K H a xs) : SqT K (noTb H) a xs := by
  rcases h with (h | ⟨o, h⟩) | h
  · exact .inl (.inl (noTb_some h fun _ z => nomatch z))
  · exact .inl (.inr ⟨o, noTb_some h fun _ z => nomatch z⟩)
  · exact .inr h
theorem seqL_tb {K : PySem.W.Frag} {H : Hp} {a : Addr} {xs : List V} (h : SqL K H a xs) : SqL K (noTb H) a xs := by
  rcases h with (h | ⟨o, h⟩) | h
  · exact .inl (.inl (noTb_some h fun _ z => nomatch z))
  · exact .inl (.inr ⟨o, noTb_some h fun _ z => nomatch z⟩)
  · exact .inr h
mutual
theorem dp_tb {K : PySem.W.Frag} {H : Hp} : ∀ {v : V} {d : PyData}, Dp K H v d → Dp K (noTb H) v d
  | _, _, .non => .non
  | _, _, .bl b => .bl b
  | _, _, .int i => .int i
  | _, _, .str x => .str x
  | _, _, .lst h a => .lst (seqL_tb h) (dpAll_tb a)
  | _, _, .tup h a => .tup (seqT_tb h) (dpAll_tb a)
theorem dpAll_tb {K : PySem.W.Frag} {H : Hp} : ∀ {vs : List V} {ds : List PyData}, DpAll K H vs ds → DpAll K (noTb H) vs ds
  | _, _, .nil => .nil
  | _, _, .cons a b => .cons (dp_tb a) (dpAll_tb b)
end
/-- what the turns leave: all but the list of what is told, and tables -/
def Rest (pt : Addr) (H : Hp) : Hp := del (noTb H) pt
theorem rest_le (pt : Addr) (H : Hp) : Same (Rest pt H) H := (del_le _ pt).trans (noTb_le _)
theorem rest_at {pt b : Addr} {H : Hp} {o : HO} (h : H b = some o) (n2 : b ≠ pt) (n3 : ∀ ps, o ≠ .tbl ps) : Rest pt H b = some o := by
  unfold Rest
  rw [del_ne n2]
  exact noTb_some h n3
theorem rest_ext {pt : Addr} {H H' : Hp} (x : LamX.ExtN H H') : Same (Rest pt H) (Rest pt H') := same_del pt (noTb_ext x)
theorem rest_same {pt : Addr} {H H' : Hp} (x : Same H H') : Same (Rest pt H) (Rest pt H') := rest_ext (LamX.ExtN.of x)
theorem rest_upd (pt : Addr) (H : Hp) (o : HO) : Rest pt (upd H pt o) = Rest pt H := by
  funext b
  unfold Rest
  by_cases c : b = pt
  · subst c; rw [del_same, del_same]
  · rw [del_ne c, del_ne c]
    unfold noTb
    rw [upd_ne c]
/-- from a heap that pt is new to -/
theorem rest_new {pt : Addr} {H H' : Hp} (x : LamX.ExtN H H') (h : H pt = none) : Same (noTb H) (Rest pt H') := fun b o e => by
  have n : b ≠ pt := fun z => by
    have := noTb_le _ _ _ e
    rw [z, h] at this; cases this
  unfold Rest
  rw [del_ne n]
  exact noTb_ext x _ _ e
theorem tabs_off {H H' : Hp} {tb : List (Addr × Str)} {b : Addr} {o : HO} (hb : H b = some o) (n1 : ∀ ps, o ≠ .tbl ps) (n2 : ∀ q, o ≠ LamX.CodeO b q) (e : Same (del H b) (del H' b)) (t : LamX.Tabs tb H) : LamX.Tabs tb H' := fun p hp => by
  obtain ⟨ps, h1, h2, h3⟩ := t p hp
  have at_ : ∀ {c : Addr} {u : HO}, c ≠ b → H c = some u → H' c = some u := fun {c u} n h => by
    have := e c u (by rw [del_ne n]; exact h)
    rw [del_ne n] at this; exact this
  refine ⟨ps, at_ (fun z => n1 ps (Option.some.inj (hb.symm.trans (by rw [← z]; exact h1)))) h1, h2, fun pos cv hc => ?_⟩
  obtain ⟨c, e1, e2⟩ := h3 pos cv hc
  refine ⟨c, e1, at_ (fun z => ?_) e2⟩
  subst z
  exact n2 p.2 (Option.some.inj (hb.symm.trans e2))
structure RI (K : PySem.W.Frag) (pt : Addr) (tb : List (Addr × Str)) (HB H : Hp) (ds : List PyData) : Prop where
  s : Same (Rest pt HB) (Rest pt H)
  told : ∃ xs, H pt = some (.lst xs) ∧ DpAll K (Rest pt H) xs ds
  tab : LamX.Tabs tb H
section
variable {K : PySem.W.Frag} {pt : Addr} {tb : List (Addr × Str)} {HB H H' : Hp} {ds : List PyData}
theorem RI.lam (r : RI K pt tb HB H ds) (x : LamX.ExtN H H') (t : LamX.Tabs tb H') : RI K pt tb HB H' ds := by
  obtain ⟨s, ⟨xs, h1, h2⟩, tab⟩ := r
  exact ⟨s.trans (rest_ext x), ⟨xs, x _ _ h1 (fun _ z => nomatch z), dpAll_same (rest_ext x) h2⟩, t⟩
theorem RI.ext (r : RI K pt tb HB H ds) (e : Same H H') : RI K pt tb HB H' ds := r.lam (LamX.ExtN.of e) (r.tab.ext e)
theorem RI.base (r : RI K pt tb HB H ds) : RI K pt tb H H ds := ⟨Same.refl _, r.told, r.tab⟩
theorem RI.put (r : RI K pt tb HB H ds) {xs : List V} {v : V} {d : PyData} (h : H pt = some (.lst xs)) (hv : Dp K (Rest pt H) v d) : RI K pt tb HB (upd H pt (.lst (xs ++ [v]))) (ds ++ [d]) := by
  obtain ⟨s, ⟨ys, h1, h2⟩, tab⟩ := r
  rw [h] at h1
  obtain rfl := HO.lst.inj (Option.some.inj h1)
  refine ⟨by rw [rest_upd]; exact s, ⟨_, upd_same, by rw [rest_upd]; exact dpAll_app h2 hv⟩, tabs_off h (fun _ z => nomatch z) (fun _ z => by unfold LamX.CodeO at z; cases z) (by rw [del_upd]; exact Same.refl _) tab⟩
theorem RI.dp (r : RI K pt tb HB H ds) {v : V} {d : PyData} (h : Dp K (Rest pt HB) v d) : Dp K H v d := dp_same (rest_le pt H) (dp_same r.s h)
theorem RI.at (r : RI K pt tb HB H ds) {a : Addr} {o : HO} (h : Rest pt HB a = some o) : H a = some o := rest_le pt H _ _ (r.s _ _ h)
end
theorem dp_mem {K : PySem.W.Frag} {H : Hp} {xs : List V} {ds : List PyData} {y : V} (h : DpAll K H xs ds) (m : y ∈ xs) : ∃ d, d ∈ ds ∧ Dp K H y d := by
  obtain ⟨i, hi, e⟩ := List.getElem_of_mem m
  obtain ⟨d, md, _, hd⟩ := dp_get h (List.getElem?_eq_some_iff.mpr ⟨hi, e⟩)
  exact ⟨d, md, hd⟩
end Lk

set_option Elab.async false
set_option linter.all false
set_option maxRecDepth 100000
set_option maxHeartbeats 4000000
set_option pp.maxSteps 1500
namespace Lk
open PySem PySem.Spec PyProof.Rows L2
theorem pe_heard {X : Cx} (T : Txt X.K X.mg) {k : Nat} (hr : Room (k + 2) X.A) {tb : List (Addr × Str)} {c P : Addr} (TB : LamX.TabB X.base X.mg c P) (hcode : X.env.code = .ref c) (hmT : (P, X.env.qual ++ "<lambda>") ∈ tb) (hu : ∀ p ∈ tb, p.1 = P → p.2 = X.env.qual ++ "<lambda>")
    {params : Arguments} {body : Expr} {scope : Scope} {t : XK → TE} {p lpos pos : PySem.Pos} (hg : Gl X "_law_said") (L : LamX.LamS X.env.scope scope) (hdef : defaultsOf params X.env = ([], []))
    (hbind : ∀ (q : Str) (cl : List (Str × Addr)) (pm cv ctv : Value), bindArgs (PySem.W.kla_fn "<lambda>" q params body scope cl pm cv ctv) ⟨[], []⟩ = pure [])
    (hbody : ∀ (A : Around) (outer : List Env) (s : Shared) (H : Hp) (E : XK) (f c' : Addr), Room k (A.deeper (LamX.lamEnv X scope s.heap.objs.size f c')) → PE (LamX.lamCx X A outer s H E scope f c') body (t E)) :
    PE X (.Call (.Name "_law_said" p) [.Lambda params body scope lpos] [] pos) (LamX.tLam tb (TTSaid T.C_Missing T.C_NotUsable) t) := by
  obtain ⟨oc, od, kV, doc, pm, an, cdv, ct, osl, e, lk, h⟩ := T.F__law_said.ex
  have b := T.b__law_said
  rw [e] at lk b
  exact LamX.pe_lamcall hg T.m__law_said T.k__law_said lk h b sc__law_said rfl (.inl rfl) (said_gives T (k := 0) (hr.mono (by omega))) TB hcode hmT hu hr L hdef hbind hbody
theorem dpAll_cat2 {K : PySem.W.Frag} {H : Hp} : ∀ {vs ws : List V} {ds es : List PyData}, DpAll K H vs ds → DpAll K H ws es → DpAll K H (vs ++ ws) (ds ++ es)
  | _, _, _, _, .nil, h => h
  | _, _, _, _, .cons a b, h => .cons a (dpAll_cat2 b h)
def missD (d : PyData) : PyData := .tuple [.str "missing", d]
section
variable {K : PySem.W.Frag} {pt M C : Addr} {tb : List (Addr × Str)} {HB G : Hp} {ds : List PyData} {i : Nat} {rest : TS} {D : Ends} {σ : L2.St} {tl : XK → TE} {x : V} {d : PyData}
/-- told.append(said(lambda: ..)): a title is missing -/
theorem tellsM (r : RI K pt tb HB G ds) (hσ : σ[i]? = some (some (.ref pt))) (few : ds.length ≤ 1000) (hd : Dp K (Rest pt HB) x d)
    (call : ∀ (G1 : Hp) (E : XK) (Q : VK), RI K pt tb HB G1 ds → missing M x G1 E → tl E σ G1 Q) (next : ∀ G2, RI K pt tb HB G2 (ds ++ [missD d]) → rest D σ G2) :
    tSeq (tDrop (tBM K "list" rAppend (tVar i) (tCons (LamX.tLam tb (TTSaid M C) tl) tNil))) rest D σ G := by
  obtain ⟨xs, h1, h2⟩ := r.told
  refine ⟨_, hσ, .inl ⟨rfl, _, SqL.of h1⟩, r.tab, fun G1 eN t1 => ?_⟩
  have r1 := r.lam eN t1
  refine call G1 _ _ r1 fun d' G2 e2 hd' hxd => .inl ⟨d', x, rfl, rfl, hxd, fun p G3 e3 hp => ?_⟩
  have r3 := (r1.ext e2).ext e3
  obtain ⟨ys, g1, g2⟩ := r3.told
  have lg := dp_len g2
  refine ⟨pt, ys, _, rfl, rfl, g1, szl (by omega), ?_⟩
  exact next _ (r3.put g1 (.tup (SqT.of (rest_at hp (fun z => by rw [z, g1] at hp; cases hp) (fun _ z => nomatch z))) (.cons (.str _) (.cons (dp_same r3.s hd) .nil))))
/-- told.append(said(lambda: ..)): no sheets -/
theorem tellsU (r : RI K pt tb HB G ds) (hσ : σ[i]? = some (some (.ref pt))) (n : Str) (few : ds.length ≤ 1000)
    (call : ∀ (G1 : Hp) (E : XK) (Q : VK), RI K pt tb HB G1 ds → notUsable C n G1 E → tl E σ G1 Q) (next : ∀ G2, RI K pt tb HB G2 (ds ++ [.tuple [.str "refused", .str n, .int (-1)]]) → rest D σ G2) :
    tSeq (tDrop (tBM K "list" rAppend (tVar i) (tCons (LamX.tLam tb (TTSaid M C) tl) tNil))) rest D σ G := by
  obtain ⟨xs, h1, h2⟩ := r.told
  refine ⟨_, hσ, .inl ⟨rfl, _, SqL.of h1⟩, r.tab, fun G1 eN t1 => ?_⟩
  have r1 := r.lam eN t1
  refine call G1 _ _ r1 fun d' G2 e2 hd' hxd => .inr ⟨d', n, rfl, rfl, hxd, fun p G3 e3 hp => ?_⟩
  have r3 := (r1.ext e2).ext e3
  obtain ⟨ys, g1, g2⟩ := r3.told
  have lg := dp_len g2
  refine ⟨pt, ys, _, rfl, rfl, g1, szl (by omega), ?_⟩
  exact next _ (r3.put g1 (.tup (SqT.of (rest_at hp (fun z => by rw [z, g1] at hp; cases hp) (fun _ z => nomatch z))) (.cons (.str _) (.cons (.str _) (.cons (.int _) .nil)))))
/-- due = due + [("missing", x)] * 2 -/
theorem due2 {pe : Addr} {ys : List V} {es : List PyData} (np : pe ≠ pt) (h8 : σ[8]? = some (some (.ref pe))) (h9 : σ[9]? = some (some x)) (hG : ∃ o, G pt = some o) (hy : G pe = some (.lst ys)) (hyd : DpAll K (Rest pt G) ys es) (few : es.length ≤ 1000) (hx : Dp K (Rest pt G) x d)
    (next : ∀ p zs G', Same G G' → p ≠ pt → G' p = some (.lst zs) → DpAll K (Rest pt G') zs (es ++ [missD d, missD d]) → rest D (σ.set 8 (some (.ref p))) G') :
    tSeq (tAsg (tOp rCat (tVar 8) (tOp rRep (tLst (tCons (tTup (tCons (tC (.str "missing")) (tCons (tVar 9) tNil))) tNil)) (tC (.int 2)))) (gName 8)) rest D σ G := by
  obtain ⟨o, ho⟩ := hG
  refine ⟨_, h8, _, h9, (by show 2 ≤ sizeLine; decide), fun p1 hp1 => ⟨(by show 1 ≤ sizeLine; decide), fun p2 hp2 => ?_⟩⟩
  have a1 := same_new hp1 (.tup [.str "missing", x])
  have a2 := same_new hp2 (.lst [.ref p1])
  have n1 : p1 ≠ pt := fun z => by rw [z, ho] at hp1; cases hp1
  have hp1' := a2 _ _ (show (upd G p1 (.tup [.str "missing", x])) p1 = some (.tup [.str "missing", x]) from upd_same)
  have a12 := a1.trans a2
  have hp2' : (upd (upd G p1 (.tup [.str "missing", x])) p2 (.lst [.ref p1])) p2 = some (.lst [.ref p1]) := upd_same
  generalize upd (upd G p1 (.tup [.str "missing", x])) p2 (.lst [.ref p1]) = G2 at a12 hp1' hp2' ⊢
  refine ⟨p2, (2 : Int), [.ref p1], rfl, rfl, hp2', by decide, by decide, (by show 1 * 2 ≤ sizeLine; decide), fun p3 hp3 => ?_⟩
  have a3 := same_new hp3 (.lst (List.replicate (2 : Int).toNat [V.ref p1]).flatten)
  have hp3' : (upd G2 p3 (.lst (List.replicate (2 : Int).toNat [V.ref p1]).flatten)) p3 = some (.lst [.ref p1, .ref p1]) := upd_same
  generalize upd G2 p3 (.lst (List.replicate (2 : Int).toNat [V.ref p1]).flatten) = G3 at a3 hp3' ⊢
  have a13 := a12.trans a3
  have ly := dp_len hyd
  refine ⟨pe, p3, ys, [.ref p1, .ref p1], rfl, rfl, a13 _ _ hy, hp3', by rw [ly]; exact Nat.le_of_lt (szl (by show es.length + 2 ≤ _; omega)), fun p4 hp4 => ?_⟩
  have a4 := same_new hp4 (.lst (ys ++ [.ref p1, .ref p1]))
  have n4 : p4 ≠ pt := fun z => by rw [z, a13 _ _ ho] at hp4; cases hp4
  have e := rest_same (pt := pt) (a13.trans a4)
  have hm : Dp K (Rest pt (upd G3 p4 (.lst (ys ++ [.ref p1, .ref p1])))) (.ref p1) (missD d) := .tup (SqT.of (rest_at (a4 _ _ (a3 _ _ hp1')) n1 (fun _ z => nomatch z))) (.cons (.str _) (.cons (dp_same e hx) .nil))
  exact next p4 _ _ (a13.trans a4) n4 upd_same (dpAll_cat2 (dpAll_same e hyd) (.cons hm (.cons hm .nil)))
theorem due2_end {pe : Addr} {ys : List V} {es : List PyData} (np : pe ≠ pt) (h8 : σ[8]? = some (some (.ref pe))) (h9 : σ[9]? = some (some x)) (hG : ∃ o, G pt = some o) (hy : G pe = some (.lst ys)) (hyd : DpAll K (Rest pt G) ys es) (few : es.length ≤ 1000) (hx : Dp K (Rest pt G) x d)
    (next : ∀ p zs G', Same G G' → p ≠ pt → G' p = some (.lst zs) → DpAll K (Rest pt G') zs (es ++ [missD d, missD d]) → D.nx (σ.set 8 (some (.ref p))) G') :
    tAsg (tOp rCat (tVar 8) (tOp rRep (tLst (tCons (tTup (tCons (tC (.str "missing")) (tCons (tVar 9) tNil))) tNil)) (tC (.int 2)))) (gName 8) D σ G :=
  due2 (rest := tNext) (D := D) np h8 h9 hG hy hyd few hx next
end
/-! ### the odd ones -/
def oddsD (gs : List Str) : List PyData := [.none, .bool true, .int 0, .int 1, .str "", .str "Main", .tuple [.str "main"], .list [.str "main"], .tuple [], .int (10 ^ (40 : Int).toNat), .str "call"] ++ gs.map .str
structure OddM (cs : Cs) (d : PyData) : Prop where
  no : titB cs d = false
  s : smB d = true
  n : nodes d ≤ 10
  dp : d.depth ≤ 3
theorem not_names : ∀ z ∈ (["", "Main", "call"] : List Str), z ∉ namesL := by decide +kernel
theorem odds_all {rs : List Rw} {ts gs : List Str} (d : DrR rs ts gs) : ∀ x ∈ oddsD gs, OddM (csOf rs) x := fun x m => by
  have no : ∀ z : Str, z ∉ ts → titB (csOf rs) (.str z) = false := fun z h => by
    show decide (z ∈ (csOf rs).map (·.1)) = false
    rw [d.ttls]; exact decide_eq_false h
  unfold oddsD at m
  rcases List.mem_append.mp m with m | m
  · simp only [List.mem_cons, List.not_mem_nil, or_false] at m
    rcases m with h | h | h | h | h | h | h | h | h | h | h <;> subst h
    · exact ⟨rfl, by decide +kernel, by decide +kernel, by decide +kernel⟩
    · exact ⟨rfl, by decide +kernel, by decide +kernel, by decide +kernel⟩
    · exact ⟨rfl, by decide +kernel, by decide +kernel, by decide +kernel⟩
    · exact ⟨rfl, by decide +kernel, by decide +kernel, by decide +kernel⟩
    · exact ⟨no _ fun h => not_names _ (by decide +kernel) (d.tn _ h), by decide +kernel, by decide +kernel, by decide +kernel⟩
    · exact ⟨no _ fun h => not_names _ (by decide +kernel) (d.tn _ h), by decide +kernel, by decide +kernel, by decide +kernel⟩
    · exact ⟨rfl, by decide +kernel, by decide +kernel, by decide +kernel⟩
    · exact ⟨rfl, by decide +kernel, by decide +kernel, by decide +kernel⟩
    · exact ⟨rfl, by decide +kernel, by decide +kernel, by decide +kernel⟩
    · exact ⟨rfl, by decide +kernel, by decide +kernel, by decide +kernel⟩
    · exact ⟨no _ fun h => not_names _ (by decide +kernel) (d.tn _ h), by decide +kernel, by decide +kernel, by decide +kernel⟩
  · obtain ⟨g, mg, rfl⟩ := List.mem_map.mp m
    exact ⟨no _ (d.gn g mg).2, decide_eq_true (names_all g (d.gn g mg).1).2.1, by show 1 ≤ 10; decide, by show 0 ≤ 3; decide⟩
structure It2 (d : PyData) : Prop where
  s : smB d = true
  n : nodes d ≤ 3700
  dp : d.depth ≤ 6
theorem It2.miss {cs : Cs} {d : PyData} (h : OddM cs d) : It2 (missD d) := by
  have hn := h.n
  have hd := h.dp
  refine ⟨?_, ?_, ?_⟩
  · show (decide ((reprText "missing").length ≤ 20) && (smB d && true)) = true
    rw [h.s, decide_eq_true (by decide +kernel)]; rfl
  · show 1 + (1 + (nodes d + 0)) ≤ 3700
    omega
  · show (PyData.tuple [.str "missing", d]).depth ≤ 6
    simp only [PyData.depth, PyData.depthAll]; omega
theorem items_rp2 {ds : List PyData} (h : ∀ d ∈ ds, It2 d) (n : ds.length ≤ 80) : Rp (.list ds) := by
  have h1 := nodesL_all (k := 3700) fun d m => (h d m).n
  have h2 := depthAll_all (k := 6) fun d m => (h d m).dp
  refine ⟨rfl, smBs_all fun d m => (h d m).s, ?_, ?_⟩
  · show 1 + nodesL ds ≤ 300000
    omega
  · simp only [PyData.depth]; omega
end Lk

set_option Elab.async false
set_option linter.all false
set_option maxRecDepth 100000
set_option maxHeartbeats 4000000
set_option pp.maxSteps 1500
namespace Lk
open PySem PySem.Spec PyProof.Rows L2
theorem mem_cut {xs : List V} {lo hi : Option Int} {v : V} (h : v ∈ cutV xs lo hi) : v ∈ xs := List.mem_of_mem_drop (List.mem_of_mem_take h)
theorem del_noTb (H : Hp) (l : Addr) : del (noTb H) l = noTb (del H l) := by
  funext b
  by_cases c : b = l
  · subst c; rw [del_same]; unfold noTb; rw [del_same]
  · rw [del_ne c]; unfold noTb; rw [del_ne c]
theorem Feed.tb {K : PySem.W.Frag} {H : Hp} {l q : Addr} {ns : List Int} (f : Feed K H l q ns) : Feed K (noTb H) l q ns := by
  obtain ⟨a, b, t, h1, h2, h3, h4⟩ := f
  exact ⟨a, b, t, noTb_some h1 (fun _ z => nomatch z), by rw [del_noTb]; exact seqL_tb h2, h3, h4⟩
theorem tabs_draw {K : PySem.W.Frag} {H H' : Hp} {l q : Addr} {ns : List Int} {tb : List (Addr × Str)} (f : Feed K H l q ns) (e : Same (del H l) (del H' l)) (t : LamX.Tabs tb H) : LamX.Tabs tb H' := by
  obtain ⟨_, _, _, h, _⟩ := f
  exact tabs_off h (fun _ z => nomatch z) (fun _ z => by unfold LamX.CodeO at z; cases z) e t
def missQ : Str := "_law_are_missing.<locals>.<lambda>"
def refQ : Str := "_law_are_refused.<locals>.<lambda>"
def spMissing (tb : List (Addr × Str)) (K : PySem.W.Frag) : Sp := fun vs H Q _ => ∃ (l q R TA G : Addr) (ns : List Int) (rs : List Rw) (ts gs : List Str) (xs : List V), vs = [.ref l, .ref R, .ref TA, .ref G] ∧ Feed K H l q ns ∧ del H l R = some (.lst xs) ∧ DpAll K (del H l) xs (rs.map rowD) ∧
  del H l TA = some (.lst (ts.map V.str)) ∧ del H l G = some (.lst (gs.map V.str)) ∧ DrR rs ts gs ∧ LamX.Tabs tb H ∧ ∀ H', Feed K H' l q ns → LamX.Tabs tb H' → Q (.bl true) H'
section
variable {P : Program} {w : World} {K : PySem.W.Frag} {mg : Str → Option Value} {base : Heap}
theorem ok_missing (T : Txt K mg) {c t t2 : Addr} (hT : TabAt K T.f__law_are_missing c t) (TB : LamX.TabB base mg c t) (ntt : t ≠ t2) : FnG P w K mg base CX0 10 T.f__law_are_missing T.d__law_are_missing ["_law_feed_here", "_law_rows", "_law_titles", "_law_ghosts"] (spMissing [(t, missQ), (t2, refQ)] K) := by
  have nd := sc__law_are_missing.nd
  refine okGT T.F__law_are_missing sc__law_are_missing hT.fn (fun vs H Q E h => ?_) (fun A outer s H vs Q E gu0 hr h => ?_)
  · obtain ⟨l, q, R, TA, G, ns, rs, ts, gs, xs, rfl, _⟩ := h
    rfl
  obtain ⟨l, q, R, TA, G, ns, rs, ts, gs, xs, rfl, hf, hR, hx, hTA, hG, dr, htab, k⟩ := h
  have gu : (A.deeper (envOfC "_law_are_missing" (defScope s__law_are_missing) s.heap.objs.size T.f__law_are_missing (.ref c))).guards = some [] := gu0
  have G__law_pick : FnOk P w K mg base CX0 1 _ _ _ (spPick K) := ok_pick T
  have hr__law_pick : Room 1 _ := hr.mono (by omega)
  have G_reached_from : FnOk P w K mg base (L2.CX P w) 7 _ _ _ (spFromM T.C_Missing K) := fn_c (ok_fromM T)
  have G_is_ring_call : FnOk P w K mg base (L2.CX P w) 7 _ _ _ (spRingM T.C_Missing K) := fn_c (ok_ringM T)
  have G_ringT : FnOk P w K mg base (L2.CX P w) 7 _ _ _ (spRingT T.C_Missing K) := fn_c (ok_ringT T)
  have G__law_same : FnG P w K mg base CX0 1 _ _ _ (spSame K) := ok_same T
  have hr__law_same : Room 1 _ := hr.mono (by omega)
  have hmT : (t, (envOfC "_law_are_missing" (defScope s__law_are_missing) s.heap.objs.size T.f__law_are_missing (.ref c)).qual ++ "<lambda>") ∈ [(t, missQ), (t2, refQ)] := List.mem_cons.mpr (.inl (by rfl))
  have huT : ∀ p ∈ [(t, missQ), (t2, refQ)], p.1 = t → p.2 = (envOfC "_law_are_missing" (defScope s__law_are_missing) s.heap.objs.size T.f__law_are_missing (.ref c)).qual ++ "<lambda>" := fun p m e => by
    rcases List.mem_cons.mp m with rfl | m
    · rfl
    · rw [List.mem_singleton.mp m] at e
      exact absurd e.symm ntt
  refine ⟨_, (pss_cons (ps_set (i := 4) nd rfl (Or.inr rfl) (pe_callTy call_tuple_of (by rfl) T.z_tuple (by decide +kernel) (pa_cons (pv 1) pa_nil)))
      (pss_cons (ps_set (i := 5) nd rfl (Or.inl rfl) (pe_lst (pa_cons pe_non (pa_cons pe_bl (pa_cons pe_int (pa_cons pe_int (pa_cons pe_str (pa_cons pe_str (pa_cons (pe_tup (pa_cons pe_str pa_nil)) (pa_cons (pe_lst (pa_cons pe_str pa_nil)) (pa_cons (pe_tup pa_nil) (pa_cons (pe_op op_pow pe_int pe_int) (pa_cons pe_str (pa_cons (pe_ix ix_list (pv 3) pe_int (fun _ _ => rfl)) (pa_cons (pe_ix ix_list (pv 3) pe_int (fun _ _ => rfl)) (pa_cons (pe_ix ix_list (pv 3) pe_int (fun _ _ => rfl)) pa_nil))))))))))))))))
      (pss_cons (ps_set (i := 6) nd rfl (Or.inl rfl) (pe_call G__law_pick hr__law_pick rfl T.m__law_pick T.k__law_pick T.b__law_pick .nil pass0 (pa_cons (pv 0) (pa_cons pe_int pa_nil))))
      (pss_cons (ps_par (i := 7) (j := 8) rfl nd rfl rfl (by decide) rfl rfl (pa_cons (pe_lst pa_nil) (pa_cons (pe_lst pa_nil) pa_nil)) (by rfl))
      (pss_cons (ps_for PassesOwn.never rfl (pi_list (pe_slice sl_list (pe_op op_cat (pe_slice sl_list (pv 5) (po_some (pv 6)) po_none) (pe_slice sl_list (pv 5) po_none (po_some (pv 6)))) po_none (po_some pe_int))) (pg_name (i := 9) nd rfl (Or.inr rfl))
      (pss_cons (ps_expr (pe_bm PySem.F.plainAttrs_list PySem.F.slot_list_append PySem.F.type_list_append mt_append (pv 7) (pa_cons (by exact pe_heard T (by exact hr) (by exact TB) (by rfl) (by exact hmT) (by exact huT) (by rfl) (by exact LamX.lamS_by (sc := defScope s__law_are_missing) (by decide +kernel)) (by rfl) (by intro _ _ _ _ _; rfl) (fun A' outer' s' H' E' f' c' hrL => by exact (pe_call (E := E') G_reached_from hrL rfl T.m_reached_from T.k_reached_from T.b_reached_from .nil (L2.passes_call (L2.takes_of rfl rfl rfl rfl) (fun _ _ _ _ h => h)) (pa_cons (pv 4) (pa_cons (pv 9) pa_nil))))) pa_nil)))
      (pss_cons (ps_expr (pe_bm PySem.F.plainAttrs_list PySem.F.slot_list_append PySem.F.type_list_append mt_append (pv 7) (pa_cons (by exact pe_heard T (by exact hr) (by exact TB) (by rfl) (by exact hmT) (by exact huT) (by rfl) (by exact LamX.lamS_by (sc := defScope s__law_are_missing) (by decide +kernel)) (by rfl) (by intro _ _ _ _ _; rfl) (fun A' outer' s' H' E' f' c' hrL => by exact (pe_call (E := E') G_is_ring_call hrL rfl T.m_is_ring_call T.k_is_ring_call T.b_is_ring_call .nil (L2.passes_call (L2.takes_of rfl rfl rfl rfl) (fun _ _ _ _ h => h)) (pa_cons (pv 4) (pa_cons (pv 9) (pa_cons (pe_ix (ix_listK (K := K) rfl) (pv 3) pe_int (fun _ _ => rfl)) pa_nil)))))) pa_nil)))
      (pss_cons (ps_set (i := 8) nd rfl (Or.inl rfl) (pe_op op_cat (pv 8) (pe_op op_rep (pe_lst (pa_cons (pe_tup (pa_cons pe_str (pa_cons (pv 9) pa_nil))) pa_nil)) pe_int)))
      (pss_one (ps_if (pt_cmpR (op_neD hr.units) (pv 2) (pe_lst pa_nil) (nomark _)) (pss_cons (ps_expr (pe_bm PySem.F.plainAttrs_list PySem.F.slot_list_append PySem.F.type_list_append mt_append (pv 7) (pa_cons (by exact pe_heard T (by exact hr) (by exact TB) (by rfl) (by exact hmT) (by exact huT) (by rfl) (by exact LamX.lamS_by (sc := defScope s__law_are_missing) (by decide +kernel)) (by rfl) (by intro _ _ _ _ _; rfl) (fun A' outer' s' H' E' f' c' hrL => by exact (pe_call (E := E') G_ringT hrL rfl T.m_is_ring_call T.k_is_ring_call T.b_is_ring_call .nil (L2.passes_call (L2.takes_of rfl rfl rfl rfl) (fun _ _ _ _ h => h)) (pa_cons (pv 4) (pa_cons (pe_ix (ix_listK (K := K) rfl) (pv 2) pe_int (fun _ _ => rfl)) (pa_cons (pv 9) pa_nil)))))) pa_nil)))
      (pss_cons (ps_expr (pe_bm PySem.F.plainAttrs_list PySem.F.slot_list_append PySem.F.type_list_append mt_append (pv 7) (pa_cons (by exact pe_heard T (by exact hr) (by exact TB) (by rfl) (by exact hmT) (by exact huT) (by rfl) (by exact LamX.lamS_by (sc := defScope s__law_are_missing) (by decide +kernel)) (by rfl) (by intro _ _ _ _ _; rfl) (fun A' outer' s' H' E' f' c' hrL => by exact (pe_call (E := E') G_is_ring_call hrL rfl T.m_is_ring_call T.k_is_ring_call T.b_is_ring_call .nil (L2.passes_call (L2.takes_of rfl rfl rfl rfl) (fun _ _ _ _ h => h)) (pa_cons (pv 4) (pa_cons (pv 9) (pa_cons (pe_ix (ix_listK (K := K) rfl) (pv 2) pe_int (fun _ _ => rfl)) pa_nil)))))) pa_nil)))
      (pss_one (ps_set (i := 8) nd rfl (Or.inl rfl) (pe_op op_cat (pv 8) (pe_op op_rep (pe_lst (pa_cons (pe_tup (pa_cons pe_str (pa_cons (pv 9) pa_nil))) pa_nil)) pe_int)))))) pss_nil))))))
      (pss_one (ps_ret (by exact (pe_callG G__law_same gu hr__law_same rfl T.m__law_same T.k__law_same T.b__law_same .nil pass0 (pa_cons (pv 7) (pa_cons (pv 8) pa_nil))))))))))), ?_⟩
  generalize htb : [(t, missQ), (t2, refQ)] = tb at htab k
  refine ⟨_, rfl, R, _, rfl, .inl ⟨SqL.of (del_at hR).1, fun TO hTO => ?_⟩⟩
  have f1 := FI.new hf (FI.ref hf) hTO (.tup xs)
  have s1 := same_new hTO (.tup xs)
  have hTO1 : del (upd H TO (.tup xs)) l TO = some (.tup xs) := by rw [del_ne (new_ne hf hTO)]; exact upd_same
  generalize upd H TO (.tup xs) = H1 at f1 s1 hTO1 ⊢
  have dTO1 : Dp K (del H1 l) (.ref TO) (rowsD rs) := .tup (SqT.of hTO1) (dpAll_same (same_del l s1) hx)
  have hTA1 := same_del l s1 _ _ hTA
  have hG1 := same_del l s1 _ _ hG
  have lgs := dr.gl
  obtain ⟨g0, g1, g2, rfl⟩ : ∃ g0 g1 g2, gs = [g0, g1, g2] := by
    match gs, lgs with
    | [a, b, c], _ => exact ⟨a, b, c, rfl⟩
  dsimp only [gName]
  -- the odd ones
  refine ⟨(by show 1 ≤ sizeLine; decide), fun p1 hp1 => ⟨(by show 1 ≤ sizeLine; decide), fun p2 hp2 => ⟨(by show 0 ≤ sizeLine; decide), fun p3 hp3 => ?_⟩⟩⟩
  have f2 := FI.new hf f1 hp1 (.tup [V.str "main"])
  have f3 := FI.new hf f2 hp2 (.lst [V.str "main"])
  have f4 := FI.new hf f3 hp3 (.tup [])
  have a1 := same_new hp1 (.tup [V.str "main"])
  have a2 := same_new hp2 (.lst [V.str "main"])
  have a3 := same_new hp3 (.tup [])
  have q1 := a3 _ _ (a2 _ _ (show (upd H1 p1 (.tup [V.str "main"])) p1 = some (.tup [V.str "main"]) from upd_same))
  have q2 := a3 _ _ (show (upd (upd H1 p1 (.tup [V.str "main"])) p2 (.lst [V.str "main"])) p2 = some (.lst [V.str "main"]) from upd_same)
  have q3 : (upd (upd (upd H1 p1 (.tup [V.str "main"])) p2 (.lst [V.str "main"])) p3 (.tup [])) p3 = some (.tup []) := upd_same
  have n1 := new_ne f1.f hp1
  have n2 := new_ne f2.f hp2
  have n3 := new_ne f3.f hp3
  have a13 := (a1.trans a2).trans a3
  generalize upd (upd (upd H1 p1 (.tup [V.str "main"])) p2 (.lst [V.str "main"])) p3 (.tup []) = H4 at f4 q1 q2 q3 a13 ⊢
  have hG4 := a13 _ _ (del_at hG1).1
  refine ⟨_, _, rfl, rfl, ⟨by decide, by decide, by decide⟩, _, rfl, G, _, _, _, rfl, rfl, SqL.of hG4, atI_nat (show ([g0, g1, g2].map V.str)[0]? = some (.str g0) from rfl), _, rfl, G, _, _, _, rfl, rfl, SqL.of hG4, atI_nat (show ([g0, g1, g2].map V.str)[1]? = some (.str g1) from rfl), _, rfl, G, _, _, _, rfl, rfl, SqL.of hG4, atI_nat (show ([g0, g1, g2].map V.str)[2]? = some (.str g2) from rfl), (by show 14 ≤ sizeLine; decide), fun po hpo => ?_⟩
  let xo : List V := [.non, .bl true, .int 0, .int 1, .str "", .str "Main", .ref p1, .ref p2, .ref p3, .int (10 ^ (40 : Int).toNat), .str "call", .str g0, .str g1, .str g2]
  have f5 := FI.new hf f4 hpo (.lst xo)
  have a5 := same_new hpo (.lst xo)
  have hpo5 : del (upd H4 po (.lst xo)) l po = some (.lst xo) := by rw [del_ne (new_ne f4.f hpo)]; exact upd_same
  have a15 := a13.trans a5
  have dxo : DpAll K (del (upd H4 po (.lst xo)) l) xo (oddsD [g0, g1, g2]) := by
    have w1 : del (upd H4 po (.lst xo)) l p1 = some (.tup [V.str "main"]) := by rw [del_ne n1]; exact a5 _ _ q1
    have w2 : del (upd H4 po (.lst xo)) l p2 = some (.lst [V.str "main"]) := by rw [del_ne n2]; exact a5 _ _ q2
    have w3 : del (upd H4 po (.lst xo)) l p3 = some (.tup []) := by rw [del_ne n3]; exact a5 _ _ q3
    exact .cons .non (.cons (.bl _) (.cons (.int _) (.cons (.int _) (.cons (.str _) (.cons (.str _) (.cons (.tup (SqT.of w1) (.cons (.str _) .nil)) (.cons (.lst (SqL.of w2) (.cons (.str _) .nil)) (.cons (.tup (SqT.of w3) .nil) (.cons (.int _) (.cons (.str _) (.cons (.str _) (.cons (.str _) (.cons (.str _) .nil)))))))))))))
  have lxo : xo.length = 14 := rfl
  show gName 5 (.ref po) _ (upd H4 po (.lst xo)) _
  generalize upd H4 po (.lst xo) = H5 at f5 a5 hpo5 a15 dxo ⊢
  have hxo : ∀ v ∈ xo, ∃ d, d ∈ oddsD [g0, g1, g2] ∧ Dp K (del H5 l) v d := fun v m => dp_mem dxo m
  generalize xo = xs5 at hpo5 dxo lxo hxo
  have dTO5 := dp_same (same_del l a15) dTO1
  have hTA5 := same_del l a15 _ _ hTA1
  have hG5 := same_del l a15 _ _ hG1
  have tab5 : LamX.Tabs tb H5 := htab.ext (s1.trans a15)
  clear f1 f2 f3 f4 a1 a2 a3 a5 q1 q2 q3 a13 a15 hp1 hp2 hp3 hpo hG4 dxo n1 n2 n3 hTA1 hG1 dTO1 hTO1 s1 hTO
  dsimp only [gName]
  refine ⟨_, rfl, l, 14, q, ns, rfl, f5.f, by decide, by decide, fun bg H6 b0 b1 g6 k6 => ?_⟩
  have f6 := f5.draw g6 k6
  have tab6 := tabs_draw f5.f k6 tab5
  have dTO6 := dp_same (del_le H6 l) (dp_same k6 dTO5)
  have hTA6 := (del_at (k6 _ _ hTA5)).1
  have hG6 := (del_at (k6 _ _ hG5)).1
  have hpo6 := (del_at (k6 _ _ hpo5)).1
  have hxo6 : ∀ v ∈ xs5, ∃ d, d ∈ oddsD [g0, g1, g2] ∧ Dp K H6 v d := fun v m => by
    obtain ⟨d, md, h⟩ := hxo v m
    exact ⟨d, md, dp_same (del_le H6 l) (dp_same k6 h)⟩
  clear f5 tab5 dTO5 hTA5 hG5 hpo5 hxo k6 g6
  refine ⟨(by show 0 ≤ sizeLine; decide), fun pt hpt => ⟨(by show 0 ≤ sizeLine; decide), fun pe hpe => ⟨_, _, rfl, ?_⟩⟩⟩
  have s7 := same_new hpt (.lst [])
  have s8 := same_new hpe (.lst [])
  have hpt8 := s8 _ _ (show (upd H6 pt (.lst [])) pt = some (.lst []) from upd_same)
  have hpe8 : (upd (upd H6 pt (.lst [])) pe (.lst [])) pe = some (.lst []) := upd_same
  have npe : pe ≠ pt := fun z => by rw [z, upd_same] at hpe; cases hpe
  have s68 := s7.trans s8
  generalize upd (upd H6 pt (.lst [])) pe (.lst []) = H8 at s68 hpt8 hpe8 ⊢
  clear s7 s8 hpe
  dsimp only
  -- the turns
  have hpo8 := s68 _ _ hpo6
  refine ⟨_, rfl, _, rfl, _, rfl, po, _, rfl, SqL.of hpo8, fun y1 hy1 => ?_⟩
  have b1' := same_new hy1 (.lst (cutV xs5 (some bg) none))
  refine ⟨_, rfl, _, rfl, _, rfl, po, _, rfl, SqL.of (b1' _ _ hpo8), fun y2 hy2 => ?_⟩
  have b2' := same_new hy2 (.lst (cutV xs5 none (some bg)))
  refine ⟨y1, y2, _, _, rfl, rfl, b2' _ _ (show (upd H8 y1 (.lst (cutV xs5 (some bg) none))) y1 = _ from upd_same), upd_same, ?_, fun y3 hy3 => ?_⟩
  · have c1 : (cutV xs5 (some bg) none).length ≤ xs5.length := by unfold cutV; rw [List.length_take, List.length_drop]; omega
    have c2 : (cutV xs5 none (some bg)).length ≤ xs5.length := by unfold cutV; rw [List.length_take, List.length_drop]; omega
    exact Nat.le_of_lt (szl (by omega))
  have b3' := same_new hy3 (.lst (cutV xs5 (some bg) none ++ cutV xs5 none (some bg)))
  refine ⟨6, rfl, y3, _, rfl, SqL.of upd_same, fun y4 hy4 => ⟨y4, rfl, ⟨_, SqL.of upd_same⟩, ?_⟩⟩
  have b4' := same_new hy4 (.lst (cutV (cutV xs5 (some bg) none ++ cutV xs5 none (some bg)) none (some 6)))
  have b84 := ((b1'.trans b2').trans b3').trans b4'
  have hz : ∀ v ∈ cutV (cutV xs5 (some bg) none ++ cutV xs5 none (some bg)) none (some 6), v ∈ xs5 := fun v m => (List.mem_append.mp (mem_cut m)).elim mem_cut mem_cut
  have lz : (cutV (cutV xs5 (some bg) none ++ cutV xs5 none (some bg)) none (some 6)).length ≤ 6 := by
    rw [show (some (6 : Int)) = some ((6 : Nat) : Int) from rfl, cut_hi, List.length_take]; omega
  have hsl : (upd (upd (upd (upd H8 y1 (.lst (cutV xs5 (some bg) none))) y2 (.lst (cutV xs5 none (some bg)))) y3 (.lst (cutV xs5 (some bg) none ++ cutV xs5 none (some bg)))) y4 (.lst (cutV (cutV xs5 (some bg) none ++ cutV xs5 none (some bg)) none (some 6)))) y4 = some (.lst (cutV (cutV xs5 (some bg) none ++ cutV xs5 none (some bg)) none (some 6))) := upd_same
  have n4 : y4 ≠ pt := fun z => by rw [z, ((b1'.trans b2').trans b3') _ _ hpt8] at hy4; cases hy4
  generalize cutV (cutV xs5 (some bg) none ++ cutV xs5 none (some bg)) none (some 6) = zs at hz lz hsl b84 ⊢
  generalize upd (upd (upd (upd H8 y1 (.lst (cutV xs5 (some bg) none))) y2 (.lst (cutV xs5 none (some bg)))) y3 (.lst (cutV xs5 (some bg) none ++ cutV xs5 none (some bg)))) y4 (.lst zs) = HX at hsl b84 ⊢
  clear b1' b2' b3' b4' hy1 hy2 hy3 hy4 hpo8
  have s6X := s68.trans b84
  have sR : Same (noTb H6) (Rest pt HX) := rest_new (LamX.ExtN.of s6X) hpt
  have rB : RI K pt tb HX HX [] := ⟨Same.refl _, ⟨[], b84 _ _ hpt8, .nil⟩, tab6.ext s6X⟩
  have hpeX := b84 _ _ hpe8
  have zTO : Dp K (Rest pt HX) (.ref TO) (rowsD rs) := dp_same sR (dp_tb dTO6)
  have zTA : Rest pt HX TA = some (.lst (ts.map V.str)) := sR _ _ (noTb_some hTA6 fun _ z => nomatch z)
  have zG : Rest pt HX G = some (.lst ([g0, g1, g2].map V.str)) := sR _ _ (noTb_some hG6 fun _ z => nomatch z)
  have zsl : Rest pt HX y4 = some (.lst zs) := rest_at hsl n4 fun _ z => nomatch z
  have zv : ∀ v ∈ zs, ∃ d, d ∈ oddsD [g0, g1, g2] ∧ Dp K (Rest pt HX) v d := fun v m => by
    obtain ⟨d, md, h⟩ := hxo6 v (hz v m)
    exact ⟨d, md, dp_same sR (dp_tb h)⟩
  have fR : Feed K (Rest pt HX) l q ns := f6.f.tb.ext sR
  clear f6 tab6 dTO6 hTA6 hG6 hpo6 hxo6 s68 hpt8 hpe8 b84 s6X sR hsl hz hpt
  have odd := odds_all dr
  have ndc : (csOf rs).map (·.1) = ts := dr.ttls
  refine for_list (K := K) (a := y4) (xs := zs) (fun i σ G0 => ∃ (o9 : Option V) (pe : Addr) (ds : List PyData) (ys : List V), σ = [some (.ref l), some (.ref R), some (.ref TA), some (.ref G), some (.ref TO), some (.ref po), some (.int bg), some (.ref pt), some (.ref pe), o9] ∧ RI K pt tb HX G0 ds ∧ pe ≠ pt ∧ G0 pe = some (.lst ys) ∧ DpAll K (Rest pt G0) ys ds ∧ (∀ d ∈ ds, It2 d) ∧ ds.length ≤ 4 * i)
    ⟨none, pe, [], [], rfl, rB, npe, hpeX, .nil, (fun _ h => nomatch h), Nat.le_refl _⟩ ?_ ?_ ?_
  · rintro i σ G0 _ ⟨_, _, _, _, _, r, _⟩
    exact SqL.of (r.at zsl)
  · rintro i v σ G0 hiv ⟨o9, pe, ds, ys, rfl, r0, np, hp0, hpd0, hit, lds⟩
    have mv := List.mem_of_getElem? hiv
    have hil : i < zs.length := (List.getElem?_eq_some_iff.mp hiv).1
    obtain ⟨d, md, hvd⟩ := zv v mv
    have om := odd d md
    have hv0 := dp_same r0.s hvd
    have hTO0 := dp_same r0.s zTO
    have hTA0 := r0.s _ _ zTA
    have hG0 := r0.s _ _ zG
    have r := r0.base
    have hpe0 : Rest pt G0 pe = some (.lst ys) := rest_at hp0 np fun _ z => nomatch z
    have it1 := It2.miss om
    have hno : titB (csD (rowsD rs)) d = false := by rw [cs_rows]; exact om.no
    have hsm : Small (csD (rowsD rs)) := by rw [cs_rows]; exact dr.small
    dsimp only [gName]
    refine tellsM (x := v) (d := d) (M := T.C_Missing) (C := T.C_NotUsable) r rfl (by omega) hv0 (fun G1 E Q r1 hm => ?_) (fun G2 r2 => ?_)
    · exact ⟨_, rfl, _, rfl, _, v, rowsD rs, d, rfl, r1.dp hTO0, r1.dp hv0, dr.sz, dr.sheets, hsm, hno, hm⟩
    refine tellsM (x := v) (d := d) (M := T.C_Missing) (C := T.C_NotUsable) r2 rfl (by rw [List.length_append]; show ds.length + 1 ≤ _; omega) hv0 (fun G1 E Q r1 hm => ?_) (fun G3 r3 => ?_)
    · exact ⟨_, rfl, _, rfl, _, rfl, G, _, _, _, rfl, rfl, SqL.of (r1.at hG0), atI_nat (show ([g0, g1, g2].map V.str)[1]? = some (.str g1) from rfl), _, v, _, rowsD rs, d, rfl, r1.dp hTO0, r1.dp hv0, dr.sz, dr.sheets, hsm, hno, hm⟩
    clear r2
    obtain ⟨_, hpt3, _⟩ := id r3.told
    refine due2 (x := v) (d := d) (pt := pt) np rfl rfl ⟨_, hpt3⟩ (r3.at hpe0) (dpAll_same r3.s hpd0) (by omega) (dp_same r3.s hv0) (fun p4 zs4 G4 e4 np4 hp4 hpd4 => ?_)
    have r4 : RI K pt tb G0 G4 (ds ++ [missD d, missD d]) := by
      have := r3.ext e4
      rw [List.append_assoc] at this
      exact this
    have hds4 : ∀ x ∈ ds ++ [missD d, missD d], It2 x := fun x m => (List.mem_append.mp m).elim (hit x) fun m => by
      simp only [List.mem_cons, List.not_mem_nil, or_false, or_self] at m
      rw [m]; exact it1
    have lds4 : (ds ++ [missD d, missD d]).length ≤ 4 * i + 2 := by rw [List.length_append]; show _ + 2 ≤ _; omega
    clear r3 hpt3
    -- a title too
    refine ⟨_, rfl, (by show 0 ≤ sizeLine; decide), fun pn hpn => ?_⟩
    have s5 := same_new hpn (.lst [])
    have r5 := r4.ext s5
    refine ⟨.list (ts.map .str), .list [], .lst (SqL.of (r5.at hTA0)) (dpAll_str _), .lst (SqL.of upd_same) .nil, shaped_names dr.tn, rfl, _, rfl, ?_⟩
    have hp5 := s5 _ _ hp4
    have hpd5 := dpAll_same (rest_same s5) hpd4
    generalize upd G4 pn (.lst []) = G5 at r5 hp5 hpd5 ⊢
    clear r4 s5 hp4 hpd4 hpn e4
    cases ts with
    | nil =>
      refine ifF rfl ?_
      exact ⟨_, p4, _, zs4, rfl, ⟨r0.s.trans r5.s, r5.told, r5.tab⟩, np4, hp5, hpd5, hds4, by omega⟩
    | cons t0 tr =>
      refine ifT rfl ?_
      have ht0 : titB (csD (rowsD rs)) (.str t0) = true := by
        show decide (t0 ∈ (csD (rowsD rs)).map (·.1)) = true
        rw [cs_rows, ndc]; exact decide_eq_true List.mem_cons_self
      have at0 : atI ((t0 :: tr).map V.str) 0 = some (.str t0) := atI_nat (show ((t0 :: tr).map V.str)[0]? = some (.str t0) from rfl)
      have hv5 := dp_same r5.s hv0
      have hTO5 := dp_same r5.s hTO0
      have hTA5 := r5.s _ _ hTA0
      refine tellsM (x := v) (d := d) (M := T.C_Missing) (C := T.C_NotUsable) r5.base rfl (by omega) hv5 (fun G1 E Q r1 hm => ?_) (fun G6 r6 => ?_)
      · exact ⟨_, rfl, _, rfl, TA, _, _, _, rfl, rfl, SqL.of (r1.at hTA5), at0, _, rfl, _, _, v, rowsD rs, .str t0, d, rfl, r1.dp hTO5, .str t0, r1.dp hv5, dr.sz, dr.sheets, hsm, ht0, hno, hm⟩
      refine tellsM (x := v) (d := d) (M := T.C_Missing) (C := T.C_NotUsable) r6 rfl (by rw [List.length_append]; show _ + 1 ≤ _; omega) hv5 (fun G1 E Q r1 hm => ?_) (fun G7 r7 => ?_)
      · exact ⟨_, rfl, _, rfl, _, rfl, TA, _, _, _, rfl, rfl, SqL.of (r1.at hTA5), at0, _, v, _, rowsD rs, d, rfl, r1.dp hTO5, r1.dp hv5, dr.sz, dr.sheets, hsm, hno, hm⟩
      have e57 := r7.s
      obtain ⟨_, hpt7, _⟩ := id r7.told
      refine due2_end (x := v) (d := d) (pt := pt) np4 rfl rfl ⟨_, hpt7⟩ (rest_le pt G7 _ _ (e57 _ _ (rest_at hp5 np4 fun _ z => nomatch z))) (dpAll_same e57 hpd5) (by omega) (dp_same e57 hv5) (fun p8 zs8 G8 e8 np8 hp8 hpd8 => ?_)
      have r8 : RI K pt tb G5 G8 ((ds ++ [missD d, missD d]) ++ [missD d, missD d]) := by
        have := r7.ext e8
        rw [List.append_assoc] at this
        exact this
      refine ⟨_, p8, _, zs8, rfl, ⟨r0.s.trans (r5.s.trans r8.s), r8.told, r8.tab⟩, np8, hp8, hpd8, fun x m => (List.mem_append.mp m).elim (hds4 x) fun m => ?_, ?_⟩
      · simp only [List.mem_cons, List.not_mem_nil, or_false, or_self] at m
        rw [m]; exact it1
      · rw [List.length_append]; show _ + 2 ≤ _; omega
  · rintro σ G0 ⟨o9, pe, ds, ys, rfl, r0, np, hp0, hpd0, hit, lds⟩
    obtain ⟨xs1, hx1, hxd1⟩ := r0.told
    have fin := k G0 ((fR.ext r0.s).ext (rest_le pt G0)) r0.tab
    exact ⟨_, rfl, _, rfl, .ref pt, .ref pe, .list ds, rfl, .lst (SqL.of hx1) (dpAll_same (rest_le pt G0) hxd1), .lst (SqL.of hp0) (dpAll_same (rest_le pt G0) hpd0), items_rp2 hit (by omega), fin⟩
end
end Lk

set_option Elab.async false
set_option linter.all false
set_option maxRecDepth 100000
set_option maxHeartbeats 4000000
namespace Lk
open PySem PySem.Spec PyProof.Rows L2
/-! ### displays: what they come to, as data -/
def EvD (K : PySem.W.Frag) (σ : L2.St) (H0 : Hp) (t : TE) (d : PyData) : Prop := ∀ (H : Hp) (Q : VK), Same H0 H → (∀ x H', Same H H' → Dp K H' x d → Q x H') → t σ H Q
def EvA (K : PySem.W.Frag) (σ : L2.St) (H0 : Hp) (t : TA) (ds : List PyData) : Prop := ∀ (H : Hp) (Q : List V → Hp → Prop), Same H0 H → (∀ xs H', Same H H' → DpAll K H' xs ds → Q xs H') → t σ H Q
section
variable {K : PySem.W.Frag} {σ : L2.St} {H0 : Hp}
theorem ev_int {i : Int} : EvD K σ H0 (tC (.int i)) (.int i) := fun _ _ _ k => k _ _ (Same.refl _) (.int i)
theorem ev_str {s : Str} : EvD K σ H0 (tC (.str s)) (.str s) := fun _ _ _ k => k _ _ (Same.refl _) (.str s)
theorem ev_bl {b : Bool} : EvD K σ H0 (tC (.bl b)) (.bool b) := fun _ _ _ k => k _ _ (Same.refl _) (.bl b)
theorem ev_non : EvD K σ H0 (tC .non) .none := fun _ _ _ k => k _ _ (Same.refl _) .non
theorem ev_neg {i : Int} : EvD K σ H0 (tUn (rU fun i => .int (-i)) (tC (.int i))) (.int (-i)) := fun _ _ _ k => ⟨i, rfl, k _ _ (Same.refl _) (.int (-i))⟩
theorem ev_var {i : Nat} {x : V} {d : PyData} (h : σ[i]? = some (some x)) (hd : Dp K H0 x d) : EvD K σ H0 (tVar i) d := fun _ _ e k => ⟨x, h, k x _ (Same.refl _) (dp_same e hd)⟩
theorem ea_nil : EvA K σ H0 tNil [] := fun _ _ _ k => k _ _ (Same.refl _) .nil
theorem ea_cons {t : TE} {ts : TA} {d : PyData} {ds : List PyData} (a : EvD K σ H0 t d) (b : EvA K σ H0 ts ds) : EvA K σ H0 (tCons t ts) (d :: ds) := fun H Q e k =>
  a H _ e fun x H1 e1 h1 => b H1 _ (e.trans e1) fun xs H2 e2 h2 => k (x :: xs) H2 (e1.trans e2) (.cons (dp_same e2 h1) h2)
theorem ev_tup {ts : TA} {ds : List PyData} (a : EvA K σ H0 ts ds) (n : ds.length ≤ 1000) : EvD K σ H0 (tTup ts) (.tuple ds) := fun H Q e k =>
  a H _ e fun xs H1 e1 h1 => ⟨by rw [dp_len h1]; exact Nat.le_of_lt (szl (by omega)), fun p hp => k _ _ (e1.trans (same_new hp _)) (.tup (SqT.of upd_same) (dpAll_same (same_new hp _) h1))⟩
theorem ev_lst {ts : TA} {ds : List PyData} (a : EvA K σ H0 ts ds) (n : ds.length ≤ 1000) : EvD K σ H0 (tLst ts) (.list ds) := fun H Q e k =>
  a H _ e fun xs H1 e1 h1 => ⟨by rw [dp_len h1]; exact Nat.le_of_lt (szl (by omega)), fun p hp => k _ _ (e1.trans (same_new hp _)) (.lst (SqL.of upd_same) (dpAll_same (same_new hp _) h1))⟩
theorem tup_of {H : Hp} {x : V} {ds : List PyData} (h : Dp K H x (.tuple ds)) : ∃ (a : Addr) (xs : List V), x = .ref a ∧ SqT K H a xs ∧ DpAll K H xs ds := by
  cases h with
  | tup h a => exact ⟨_, _, rfl, h, a⟩
theorem lst_of {H : Hp} {x : V} {ds : List PyData} (h : Dp K H x (.list ds)) : ∃ (a : Addr) (xs : List V), x = .ref a ∧ SqL K H a xs ∧ DpAll K H xs ds := by
  cases h with
  | lst h a => exact ⟨_, _, rfl, h, a⟩
theorem dpAll_cat {H : Hp} : ∀ {xs ys : List V} {ds es : List PyData}, DpAll K H xs ds → DpAll K H ys es → DpAll K H (xs ++ ys) (ds ++ es)
  | _, _, _, _, .nil, h => h
  | _, _, _, _, .cons a b, h => .cons a (dpAll_cat b h)
theorem ev_cat {ta tb : TE} {ds es : List PyData} (a : EvD K σ H0 ta (.tuple ds)) (b : EvD K σ H0 tb (.tuple es)) (n : ds.length ≤ 1000) (m : es.length ≤ 1000) : EvD K σ H0 (tOp (rCatS K) ta tb) (.tuple (ds ++ es)) := fun H Q e k =>
  a H _ e fun x H1 e1 h1 => b H1 _ (e.trans e1) fun y H2 e2 h2 => by
    obtain ⟨p, xs, rfl, hp, hx⟩ := tup_of (dp_same e2 h1)
    obtain ⟨q, ys, rfl, hq, hy⟩ := tup_of h2
    refine ⟨p, q, xs, ys, rfl, rfl, hp, hq, by rw [dp_len hx, dp_len hy]; exact Nat.le_of_lt (szl (by omega)), fun r H3 e3 h3 => ?_⟩
    exact k _ _ ((e1.trans e2).trans e3) (.tup h3 (dpAll_cat (dpAll_same e3 hx) (dpAll_same e3 hy)))
theorem dpAll_drop {H : Hp} : ∀ {xs : List V} {ds : List PyData} (n : Nat), DpAll K H xs ds → DpAll K H (xs.drop n) (ds.drop n)
  | _, _, 0, h => h
  | _, _, n + 1, .nil => .nil
  | _, _, n + 1, .cons a b => dpAll_drop n b
theorem dpAll_takes {H : Hp} : ∀ {xs : List V} {ds : List PyData} (n : Nat), DpAll K H xs ds → DpAll K H (xs.take n) (ds.take n)
  | _, _, 0, h => .nil
  | _, _, n + 1, .nil => .nil
  | _, _, n + 1, .cons a b => .cons a (dpAll_takes n b)
theorem dpAll_reverse {H : Hp} : ∀ {xs : List V} {ds : List PyData}, DpAll K H xs ds → DpAll K H xs.reverse ds.reverse
  | _, _, .nil => .nil
  | x :: xs, d :: ds, .cons a b => by
    rw [List.reverse_cons, List.reverse_cons]
    exact dpAll_app (dpAll_reverse b) a
theorem ev_rev {ta : TE} {ds : List PyData} (a : EvD K σ H0 ta (.tuple ds)) : EvD K σ H0 (tRevT K ta) (.tuple ds.reverse) := fun H Q e k =>
  a H _ e fun x H1 e1 h1 => by
    obtain ⟨p, xs, rfl, hp, hx⟩ := tup_of h1
    refine ⟨p, xs, rfl, hp, fun q hq => ?_⟩
    exact k _ _ (e1.trans (same_new hq _)) (.tup (SqT.of upd_same) (dpAll_same (same_new hq _) (dpAll_reverse hx)))
theorem ev_list {ta : TE} {ds : List PyData} (a : EvD K σ H0 ta (.tuple ds)) : EvD K σ H0 (tCB (fun xs H Q => ∃ p ys, xs = [V.ref p] ∧ (SqL K H p ys ∨ SqT K H p ys) ∧ ∀ l, H l = none → Q (.ref l) (upd H l (.lst ys))) (tCons ta tNil)) (.list ds) := fun H Q e k =>
  a H _ e fun x H1 e1 h1 => by
    obtain ⟨p, xs, rfl, hp, hx⟩ := tup_of h1
    refine ⟨p, xs, rfl, .inr hp, fun q hq => ?_⟩
    exact k _ _ (e1.trans (same_new hq _)) (.lst (SqL.of upd_same) (dpAll_same (same_new hq _) hx))
theorem ev_cut {ta : TE} {ds : List PyData} (a : EvD K σ H0 ta (.tuple ds)) : EvD K σ H0 (tSl (rSlS K) ta (tPart (tUn (rU fun i => .int (-i)) (tC (.int 1)))) tNoPart) (.tuple ((ds.drop (HT.sIx ds.length 0 (some (-1)))).take (HT.sIx ds.length ds.length none - HT.sIx ds.length 0 (some (-1))))) := fun H Q e k =>
  a H _ e fun x H1 e1 h1 => by
    obtain ⟨p, xs, rfl, hp, hx⟩ := tup_of h1
    refine ⟨1, rfl, -1, rfl, p, xs, rfl, hp, fun q H2 e2 h2 => ?_⟩
    refine k _ _ (e1.trans e2) (.tup h2 ?_)
    unfold cutV
    rw [dp_len hx]
    exact dpAll_takes _ (dpAll_drop _ (dpAll_same e2 hx))
theorem ev_add {ta tb : TE} {i j : Int} (a : EvD K σ H0 ta (.int i)) (b : EvD K σ H0 tb (.int j)) : EvD K σ H0 (tOp (rI0 fun i j => .int (i + j)) ta tb) (.int (i + j)) := fun H Q e k =>
  a H _ e fun x H1 e1 h1 => b H1 _ (e.trans e1) fun y H2 e2 h2 => by
    cases h1; cases h2
    exact ⟨_, _, rfl, rfl, k _ _ (e1.trans e2) (.int _)⟩
theorem goS {t : TE} {rest : TS} {D : Ends} {i : Nat} {d : PyData} (e : EvD K σ H0 t d) (k : ∀ x H', Same H0 H' → Dp K H' x d → rest D (σ.set i (some x)) H') : tSeq (tAsg t (gName i)) rest D σ H0 := e H0 _ (Same.refl _) k
end
/-! ### the same, away from a list at l -/
def EvE (K : PySem.W.Frag) (l : Addr) (σ : L2.St) (H0 : Hp) (t : TE) (d : PyData) : Prop := ∀ (H : Hp) (Q : VK), Same H0 H → (∀ x H', Same H H' → Dp K (del H' l) x d → Q x H') → t σ H Q
def EaE (K : PySem.W.Frag) (l : Addr) (σ : L2.St) (H0 : Hp) (t : TA) (ds : List PyData) : Prop := ∀ (H : Hp) (Q : List V → Hp → Prop), Same H0 H → (∀ xs H', Same H H' → DpAll K (del H' l) xs ds → Q xs H') → t σ H Q
section
variable {K : PySem.W.Frag} {l : Addr} {σ : L2.St} {H0 : Hp}
theorem off_new {H H1 : Hp} {zs : List V} {p : Addr} {o : HO} (hl : H l = some (.lst zs)) (e : Same H H1) (hp : H1 p = none) : p ≠ l ∧ (del (upd H1 p o) l) p = some o := by
  have n : p ≠ l := fun z => by rw [z, e _ _ hl] at hp; cases hp
  exact ⟨n, by rw [del_ne n]; exact upd_same⟩
theorem ee_int {i : Int} : EvE K l σ H0 (tC (.int i)) (.int i) := fun _ _ _ k => k _ _ (Same.refl _) (.int i)
theorem ee_str {s : Str} : EvE K l σ H0 (tC (.str s)) (.str s) := fun _ _ _ k => k _ _ (Same.refl _) (.str s)
theorem ee_bl {b : Bool} : EvE K l σ H0 (tC (.bl b)) (.bool b) := fun _ _ _ k => k _ _ (Same.refl _) (.bl b)
theorem ee_non : EvE K l σ H0 (tC .non) .none := fun _ _ _ k => k _ _ (Same.refl _) .non
theorem ee_neg {i : Int} : EvE K l σ H0 (tUn (rU fun i => .int (-i)) (tC (.int i))) (.int (-i)) := fun _ _ _ k => ⟨i, rfl, k _ _ (Same.refl _) (.int (-i))⟩
theorem ee_var {i : Nat} {x : V} {d : PyData} (h : σ[i]? = some (some x)) (hd : Dp K (del H0 l) x d) : EvE K l σ H0 (tVar i) d := fun _ _ e k => ⟨x, h, k x _ (Same.refl _) (dp_same (same_del l e) hd)⟩
theorem eb_nil : EaE K l σ H0 tNil [] := fun _ _ _ k => k _ _ (Same.refl _) .nil
theorem eb_cons {t : TE} {ts : TA} {d : PyData} {ds : List PyData} (a : EvE K l σ H0 t d) (b : EaE K l σ H0 ts ds) : EaE K l σ H0 (tCons t ts) (d :: ds) := fun H Q e k =>
  a H _ e fun x H1 e1 h1 => b H1 _ (e.trans e1) fun xs H2 e2 h2 => k (x :: xs) H2 (e1.trans e2) (.cons (dp_same (same_del l e2) h1) h2)
theorem ee_tup {ts : TA} {ds : List PyData} {zs : List V} (hl : H0 l = some (.lst zs)) (a : EaE K l σ H0 ts ds) (n : ds.length ≤ 1000) : EvE K l σ H0 (tTup ts) (.tuple ds) := fun H Q e k =>
  a H _ e fun xs H1 e1 h1 => ⟨by rw [dp_len h1]; exact Nat.le_of_lt (szl (by omega)), fun p hp => k _ _ (e1.trans (same_new hp _)) (.tup (SqT.of (off_new hl (e.trans e1) hp).2) (dpAll_same (same_del l (same_new hp _)) h1))⟩
theorem ee_lst {ts : TA} {ds : List PyData} {zs : List V} (hl : H0 l = some (.lst zs)) (a : EaE K l σ H0 ts ds) (n : ds.length ≤ 1000) : EvE K l σ H0 (tLst ts) (.list ds) := fun H Q e k =>
  a H _ e fun xs H1 e1 h1 => ⟨by rw [dp_len h1]; exact Nat.le_of_lt (szl (by omega)), fun p hp => k _ _ (e1.trans (same_new hp _)) (.lst (SqL.of (off_new hl (e.trans e1) hp).2) (dpAll_same (same_del l (same_new hp _)) h1))⟩
theorem ee_cat {ta tb : TE} {ds es : List PyData} {zs : List V} (hl : H0 l = some (.lst zs)) (a : EvE K l σ H0 ta (.tuple ds)) (b : EvE K l σ H0 tb (.tuple es)) (n : ds.length ≤ 1000) (m : es.length ≤ 1000) : EvE K l σ H0 (tOp (rCatS K) ta tb) (.tuple (ds ++ es)) := fun H Q e k =>
  a H _ e fun x H1 e1 h1 => b H1 _ (e.trans e1) fun y H2 e2 h2 => by
    obtain ⟨p, xs, rfl, hp, hx⟩ := tup_of (dp_same (same_del l e2) h1)
    obtain ⟨q, ys, rfl, hq, hy⟩ := tup_of h2
    refine ⟨p, q, xs, ys, rfl, rfl, seqT_same (del_le _ l) hp, seqT_same (del_le _ l) hq, by rw [dp_len hx, dp_len hy]; exact Nat.le_of_lt (szl (by omega)), fun r H3 e3 h3 => ?_⟩
    exact k _ _ ((e1.trans e2).trans e3) (.tup (seqT_off h3 ((((e.trans e1).trans e2).trans e3) _ _ hl)) (dpAll_cat (dpAll_same (same_del l e3) hx) (dpAll_same (same_del l e3) hy)))
theorem ee_rev {ta : TE} {ds : List PyData} {zs : List V} (hl : H0 l = some (.lst zs)) (a : EvE K l σ H0 ta (.tuple ds)) : EvE K l σ H0 (tRevT K ta) (.tuple ds.reverse) := fun H Q e k =>
  a H _ e fun x H1 e1 h1 => by
    obtain ⟨p, xs, rfl, hp, hx⟩ := tup_of h1
    refine ⟨p, xs, rfl, seqT_same (del_le _ l) hp, fun q hq => ?_⟩
    exact k _ _ (e1.trans (same_new hq _)) (.tup (SqT.of (off_new hl (e.trans e1) hq).2) (dpAll_same (same_del l (same_new hq _)) (dpAll_reverse hx)))
theorem ee_list {ta : TE} {ds : List PyData} {zs : List V} (hl : H0 l = some (.lst zs)) (a : EvE K l σ H0 ta (.tuple ds)) : EvE K l σ H0 (tCB (fun xs H Q => ∃ p ys, xs = [V.ref p] ∧ (SqL K H p ys ∨ SqT K H p ys) ∧ ∀ l, H l = none → Q (.ref l) (upd H l (.lst ys))) (tCons ta tNil)) (.list ds) := fun H Q e k =>
  a H _ e fun x H1 e1 h1 => by
    obtain ⟨p, xs, rfl, hp, hx⟩ := tup_of h1
    refine ⟨p, xs, rfl, .inr (seqT_same (del_le _ l) hp), fun q hq => ?_⟩
    exact k _ _ (e1.trans (same_new hq _)) (.lst (SqL.of (off_new hl (e.trans e1) hq).2) (dpAll_same (same_del l (same_new hq _)) hx))
theorem ee_cut {ta : TE} {ds : List PyData} {zs : List V} (hl : H0 l = some (.lst zs)) (a : EvE K l σ H0 ta (.tuple ds)) : EvE K l σ H0 (tSl (rSlS K) ta (tPart (tUn (rU fun i => .int (-i)) (tC (.int 1)))) tNoPart) (.tuple ((ds.drop (HT.sIx ds.length 0 (some (-1)))).take (HT.sIx ds.length ds.length none - HT.sIx ds.length 0 (some (-1))))) := fun H Q e k =>
  a H _ e fun x H1 e1 h1 => by
    obtain ⟨p, xs, rfl, hp, hx⟩ := tup_of h1
    refine ⟨1, rfl, -1, rfl, p, xs, rfl, seqT_same (del_le _ l) hp, fun q H2 e2 h2 => ?_⟩
    refine k _ _ (e1.trans e2) (.tup (seqT_off h2 (((e.trans e1).trans e2) _ _ hl)) ?_)
    unfold cutV
    rw [dp_len hx]
    exact dpAll_takes _ (dpAll_drop _ (dpAll_same (same_del l e2) hx))
theorem ee_add {ta tb : TE} {i j : Int} (a : EvE K l σ H0 ta (.int i)) (b : EvE K l σ H0 tb (.int j)) : EvE K l σ H0 (tOp (rI0 fun i j => .int (i + j)) ta tb) (.int (i + j)) := fun H Q e k =>
  a H _ e fun x H1 e1 h1 => b H1 _ (e.trans e1) fun y H2 e2 h2 => by
    cases h1; cases h2
    exact ⟨_, _, rfl, rfl, k _ _ (e1.trans e2) (.int _)⟩
theorem goE {t : TE} {rest : TS} {D : Ends} {i : Nat} {d : PyData} (e : EvE K l σ H0 t d) (k : ∀ x H', Same H0 H' → Dp K (del H' l) x d → rest D (σ.set i (some x)) H') : tSeq (tAsg t (gName i)) rest D σ H0 := e H0 _ (Same.refl _) k
end
theorem takes0N {X : Cx} : L2N.Takes X (fun _ _ _ _ => False) := fun _ _ x => by
  obtain ⟨_, _, _, _, _, _, _, _, _, _, _, _, _, _, _, _, z⟩ := x
  exact z.elim
end Lk

set_option Elab.async false
set_option linter.all false
set_option maxRecDepth 100000
set_option maxHeartbeats 4000000
set_option pp.maxSteps 1500
namespace Lk
open PySem PySem.Spec PyProof.Rows L2
/-! ### lists that are made away from a list at l -/
def EvM (K : PySem.W.Frag) (l : Addr) (σ : L2.St) (H0 : Hp) (t : TE) (ds : List PyData) : Prop := ∀ (H : Hp) (Q : VK), Same H0 H → (∀ p xs H', Same H H' → H' p = some (.lst xs) → DpAll K (del H' l) xs ds → Q (.ref p) H') → t σ H Q
section
variable {K : PySem.W.Frag} {l : Addr} {σ : L2.St} {H0 : Hp}
theorem em_lst {ts : TA} {ds : List PyData} (a : EaE K l σ H0 ts ds) (n : ds.length ≤ 1000) : EvM K l σ H0 (tLst ts) ds := fun H Q e k =>
  a H _ e fun xs H1 e1 h1 => ⟨by rw [dp_len h1]; exact Nat.le_of_lt (szl (by omega)), fun p hp => k p xs _ (e1.trans (same_new hp _)) upd_same (dpAll_same (same_del l (same_new hp _)) h1)⟩
theorem em_var {i : Nat} {p : Addr} {xs : List V} {ds : List PyData} (h : σ[i]? = some (some (.ref p))) (h1 : H0 p = some (.lst xs)) (hd : DpAll K (del H0 l) xs ds) : EvM K l σ H0 (tVar i) ds := fun H Q e k => ⟨_, h, k p xs H (Same.refl _) (e _ _ h1) (dpAll_same (same_del l e) hd)⟩
theorem goMC {ta tb : TE} {rest : TS} {D : Ends} {i : Nat} {ds es : List PyData} (a : EvM K l σ H0 ta ds) (b : EvM K l σ H0 tb es) (n : ds.length ≤ 1000) (m : es.length ≤ 1000) (k : ∀ p xs H', Same H0 H' → H0 p = none → H' p = some (.lst xs) → DpAll K (del H' l) xs (ds ++ es) → rest D (σ.set i (some (.ref p))) H') : tSeq (tAsg (tOp rCat ta tb) (gName i)) rest D σ H0 :=
  a H0 _ (Same.refl _) fun p xs H1 e1 h1 d1 => b H1 _ e1 fun q ys H2 e2 h2 d2 =>
    ⟨p, q, xs, ys, rfl, rfl, e2 _ _ h1, h2, by rw [dp_len d1, dp_len d2]; exact Nat.le_of_lt (szl (by omega)), fun r hr =>
      have s' : Same (del H2 l) (del (upd H2 r (.lst (xs ++ ys))) l) := same_del l (same_new hr _)
      k r _ _ ((e1.trans e2).trans (same_new hr _)) (none_of (e1.trans e2) hr) upd_same (dpAll_cat2 (dpAll_same ((same_del l e2).trans s') d1) (dpAll_same s' d2))⟩
theorem goML {ts : TA} {rest : TS} {D : Ends} {i : Nat} {ds : List PyData} (a : EaE K l σ H0 ts ds) (n : ds.length ≤ 1000) (k : ∀ p xs H', Same H0 H' → H0 p = none → H' p = some (.lst xs) → DpAll K (del H' l) xs ds → rest D (σ.set i (some (.ref p))) H') : tSeq (tAsg (tLst ts) (gName i)) rest D σ H0 :=
  a H0 _ (Same.refl _) fun xs H1 e1 h1 => ⟨by rw [dp_len h1]; exact Nat.le_of_lt (szl (by omega)), fun p hp =>
    k p xs _ (e1.trans (same_new hp _)) (none_of e1 hp) upd_same (dpAll_same (same_del l (same_new hp _)) h1)⟩
end
/-! ### what is refused, as data -/
def goodD : PyData := .tuple [.str "a", .int 1, .tuple [.tuple [.str "a", .int 0]]]
def badsA : List PyData := [.none, .list [], .list [goodD], goodD, .str "a", .int 7, .bool true, .tuple [goodD, goodD], .tuple [goodD, .tuple [.str "a", .int 2, .tuple []]], .tuple [.tuple [.str "b", .int 1, .list [.tuple [.str "a", .int 0]]]]]
def badsB : List PyData := [.tuple [goodD, .list [.str "b", .int 1, .tuple []]], .tuple [.tuple [.str "b", .bool true, .tuple []], goodD], .tuple [goodD, .tuple [.str "b", .int 1, .tuple [.tuple [.str "a", .int (-1)]]]], .tuple [.tuple [.str "word", .int 1, .tuple []]]]
mutual
def szB : PyData → Bool
  | .none => true
  | .bool _ => true
  | .int _ => true
  | .str z => decide (z.length ≤ 1000)
  | .list _ => true
  | .tuple ds => decide (ds.length ≤ 1000) && szBs ds
  | .dict _ => false
def szBs : List PyData → Bool
  | [] => true
  | d :: ds => szB d && szBs ds
end
mutual
theorem sz_of : ∀ {d : PyData}, szB d = true → Sz d
  | .none, _ => .non
  | .bool b, _ => .bl b
  | .int i, _ => .int i
  | .str z, h => .str z (of_decide_eq_true h)
  | .list ds, _ => .lst ds
  | .tuple ds, h => .tup ds (of_decide_eq_true (Bool.and_eq_true_iff.mp h).1) (szs_of (Bool.and_eq_true_iff.mp h).2)
  | .dict _, h => nomatch h
theorem szs_of : ∀ {ds : List PyData}, szBs ds = true → ∀ d ∈ ds, Sz d
  | [], _, _, m => nomatch m
  | d :: ds, h, x, m => by
    obtain ⟨h1, h2⟩ := Bool.and_eq_true_iff.mp h
    rcases List.mem_cons.mp m with e | m
    · rw [e]; exact sz_of h1
    · exact szs_of h2 x m
end
theorem bads_all : ∀ d ∈ badsA ++ badsB, szB d = true ∧ isSheetsD d = false := by decide +kernel
def oneD : PyData := .tuple [goodD]
def aL : List Str := ["a"]
def oneC : Cs := [("a", aL)]
theorem one_ok : szB oneD = true ∧ isSheetsD oneD = true ∧ csD oneD = oneC := by
  refine ⟨by decide +kernel, by decide +kernel, rfl⟩
theorem one_rc (z : Str) : Rc oneC "a" z ↔ z = "a" := by
  constructor
  · intro h
    have := h.flat
    exact List.mem_singleton.mp this
  · rintro rfl
    exact .one (List.mem_singleton.mpr rfl)
theorem srt_one (z : Str) : srt [z] = [z] := srt_id (List.pairwise_singleton _ _)
theorem rings_one : ringsD oneC = .tuple [.tuple [.str "a"]] := by
  have h1 : srt (oneC.map (·.1)) = aL := srt_one _
  have h2 : rc oneC "a" "a" = true := rc_iff.mpr ((one_rc _).mpr rfl)
  have h3 : ringL oneC aL "a" = aL := by
    unfold ringL aL
    rw [List.filter_cons_of_pos (by rw [h2]; rfl)]; rfl
  unfold ringsD
  rw [h1]
  unfold ringsL
  have h4 : aL.filter (fun t => decide ((ringL oneC aL t).head? = some t)) = aL := by
    show List.filter _ (["a"] : List Str) = _
    rw [List.filter_cons_of_pos (by rw [h3]; exact decide_eq_true rfl)]; rfl
  rw [h4]
  show PyData.tuple [.tuple ((ringL oneC aL "a").map .str)] = _
  rw [h3]; rfl
theorem rings_none : ringsD [] = .tuple [] := by
  unfold ringsD ringsL
  have : srt (([] : Cs).map (·.1)) = [] := srt_id List.Pairwise.nil
  rw [this]; rfl
def refD : PyData := .tuple [.str "refused", .str "sheets", .int (-1)]
theorem it_ref : It2 refD := ⟨by decide +kernel, by decide +kernel, by decide +kernel⟩
def lastD : List PyData := [.tuple [.tuple [.str "a"]], .tuple [], .tuple [.str "a"], .bool true]
theorem it_last : ∀ d ∈ lastD, smB d = true ∧ nodes d ≤ 3700 ∧ d.depth ≤ 6 := by decide +kernel
theorem small_one : Small oneC := ⟨by decide, by decide⟩
theorem small_nil : Small [] := ⟨by decide, by decide⟩
def spRefused (tb : List (Addr × Str)) (K : PySem.W.Frag) : Sp := fun vs H Q _ => ∃ (l q : Addr) (ns : List Int), vs = [.ref l] ∧ Feed K H l q ns ∧ LamX.Tabs tb H ∧ ∀ H', Q (.bl true) H'
section
variable {P : Program} {w : World} {K : PySem.W.Frag} {mg : Str → Option Value} {base : Heap}
theorem ok_refused (T : Txt K mg) {c t t1 : Addr} (hT : TabAt K T.f__law_are_refused c t) (TB : LamX.TabB base mg c t) (ntt : t1 ≠ t) : FnG P w K mg base CX0 10 T.f__law_are_refused T.d__law_are_refused ["_law_feed_here"] (spRefused [(t1, missQ), (t, refQ)] K) := by
  have nd := sc__law_are_refused.nd
  refine okGT T.F__law_are_refused sc__law_are_refused hT.fn (fun vs H Q E h => ?_) (fun A outer s H vs Q E gu0 hr h => ?_)
  · obtain ⟨l, q, ns, rfl, _⟩ := h
    rfl
  obtain ⟨l, q, ns, rfl, hf, htab, k⟩ := h
  have gu : (A.deeper (envOfC "_law_are_refused" (defScope s__law_are_refused) s.heap.objs.size T.f__law_are_refused (.ref c))).guards = some [] := gu0
  have G__law_pick : FnOk P w K mg base CX0 1 _ _ _ (spPick K) := ok_pick T
  have hr__law_pick : Room 1 _ := hr.mono (by omega)
  have G_fromB : FnOk P w K mg base (L2.CX P w) 7 _ _ _ (spOffB 1 T.C_NotUsable K) := fn_c (ok_fromB T)
  have G_ringsB : FnOk P w K mg base (L2.CX P w) 7 _ _ _ (spOffB 0 T.C_NotUsable K) := fn_c (ok_ringsB T)
  have G_ringB : FnOk P w K mg base (L2.CX P w) 7 _ _ _ (spOffB 2 T.C_NotUsable K) := fn_c (ok_ringB T)
  have G_rings_of : FnOk P w K mg base CX0 7 _ _ _ (spRingsG K) := ok_ringsG T
  have hr_rings_of : Room 7 _ := hr.mono (by omega)
  have G_reached_from : FnOk P w K mg base CX0 7 _ _ _ (spFromG K) := ok_fromG T
  have hr_reached_from : Room 7 _ := hr.mono (by omega)
  have G_is_ring_call : FnOk P w K mg base CX0 7 _ _ _ (spRingG K) := ok_ringG T
  have hr_is_ring_call : Room 7 _ := hr.mono (by omega)
  have G__law_same : FnG P w K mg base CX0 1 _ _ _ (spSame K) := ok_same T
  have hr__law_same : Room 1 _ := hr.mono (by omega)
  have hmT : (t, (envOfC "_law_are_refused" (defScope s__law_are_refused) s.heap.objs.size T.f__law_are_refused (.ref c)).qual ++ "<lambda>") ∈ [(t1, missQ), (t, refQ)] := List.mem_cons.mpr (.inr (List.mem_singleton.mpr (by rfl)))
  have huT : ∀ p ∈ [(t1, missQ), (t, refQ)], p.1 = t → p.2 = (envOfC "_law_are_refused" (defScope s__law_are_refused) s.heap.objs.size T.f__law_are_refused (.ref c)).qual ++ "<lambda>" := fun p m e => by
    rcases List.mem_cons.mp m with rfl | m
    · exact absurd e ntt
    · rw [List.mem_singleton.mp m]; rfl
  refine ⟨_, (pss_cons (ps_set (i := 1) nd rfl (Or.inl rfl) (pe_tup (pa_cons pe_str (pa_cons pe_int (pa_cons (pe_tup (pa_cons (pe_tup (pa_cons pe_str (pa_cons pe_int pa_nil))) pa_nil)) pa_nil)))))
      (pss_cons (ps_set (i := 2) nd rfl (Or.inl rfl) (pe_lst (pa_cons pe_non (pa_cons (pe_lst pa_nil) (pa_cons (pe_lst (pa_cons (pv 1) pa_nil)) (pa_cons (pv 1) (pa_cons pe_str (pa_cons pe_int (pa_cons pe_bl (pa_cons (pe_tup (pa_cons (pv 1) (pa_cons (pv 1) pa_nil))) (pa_cons (pe_tup (pa_cons (pv 1) (pa_cons (pe_tup (pa_cons pe_str (pa_cons pe_int (pa_cons (pe_tup pa_nil) pa_nil)))) pa_nil))) (pa_cons (pe_tup (pa_cons (pe_tup (pa_cons pe_str (pa_cons pe_int (pa_cons (pe_lst (pa_cons (pe_tup (pa_cons pe_str (pa_cons pe_int pa_nil))) pa_nil)) pa_nil)))) pa_nil)) pa_nil))))))))))))
      (pss_cons (ps_set (i := 2) nd rfl (Or.inl rfl) (pe_op op_cat (pv 2) (pe_lst (pa_cons (pe_tup (pa_cons (pv 1) (pa_cons (pe_lst (pa_cons pe_str (pa_cons pe_int (pa_cons (pe_tup pa_nil) pa_nil)))) pa_nil))) (pa_cons (pe_tup (pa_cons (pe_tup (pa_cons pe_str (pa_cons pe_bl (pa_cons (pe_tup pa_nil) pa_nil)))) (pa_cons (pv 1) pa_nil))) (pa_cons (pe_tup (pa_cons (pv 1) (pa_cons (pe_tup (pa_cons pe_str (pa_cons pe_int (pa_cons (pe_tup (pa_cons (pe_tup (pa_cons pe_str (pa_cons (pe_un un_neg pe_int) pa_nil))) pa_nil)) pa_nil)))) pa_nil))) (pa_cons (pe_tup (pa_cons (pe_tup (pa_cons pe_str (pa_cons pe_int (pa_cons (pe_tup pa_nil) pa_nil)))) pa_nil)) pa_nil)))))))
      (pss_cons (ps_set (i := 3) nd rfl (Or.inl rfl) (pe_call G__law_pick hr__law_pick rfl T.m__law_pick T.k__law_pick T.b__law_pick .nil pass0 (pa_cons (pv 0) (pa_cons pe_int pa_nil))))
      (pss_cons (ps_par (i := 4) (j := 5) rfl nd rfl rfl (by decide) rfl rfl (pa_cons (pe_lst pa_nil) (pa_cons (pe_lst pa_nil) pa_nil)) (by rfl))
      (pss_cons (ps_for PassesOwn.never rfl (pi_list (pe_slice sl_list (pe_op op_cat (pe_slice sl_list (pv 2) (po_some (pv 3)) po_none) (pe_slice sl_list (pv 2) po_none (po_some (pv 3)))) po_none (po_some pe_int))) (pg_name (i := 6) nd rfl (Or.inr rfl))
      (pss_cons (ps_expr (pe_bm PySem.F.plainAttrs_list PySem.F.slot_list_append PySem.F.type_list_append mt_append (pv 4) (pa_cons (by exact pe_heard T (by exact hr) (by exact TB) (by rfl) (by exact hmT) (by exact huT) (by rfl) (by exact LamX.lamS_by (sc := defScope s__law_are_refused) (by decide +kernel)) (by rfl) (by intro _ _ _ _ _; rfl) (fun A' outer' s' H' E' f' c' hrL => by exact (pe_call (E := E') G_fromB hrL rfl T.m_reached_from T.k_reached_from T.b_reached_from .nil (L2.passes_call (L2.takes_of rfl rfl rfl rfl) (fun _ _ _ _ h => h)) (pa_cons (pv 6) (pa_cons pe_str pa_nil))))) pa_nil)))
      (pss_cons (ps_expr (pe_bm PySem.F.plainAttrs_list PySem.F.slot_list_append PySem.F.type_list_append mt_append (pv 4) (pa_cons (by exact pe_heard T (by exact hr) (by exact TB) (by rfl) (by exact hmT) (by exact huT) (by rfl) (by exact LamX.lamS_by (sc := defScope s__law_are_refused) (by decide +kernel)) (by rfl) (by intro _ _ _ _ _; rfl) (fun A' outer' s' H' E' f' c' hrL => by exact (pe_call (E := E') G_fromB hrL rfl T.m_reached_from T.k_reached_from T.b_reached_from .nil (L2.passes_call (L2.takes_of rfl rfl rfl rfl) (fun _ _ _ _ h => h)) (pa_cons (pv 6) (pa_cons pe_non pa_nil))))) pa_nil)))
      (pss_cons (ps_expr (pe_bm PySem.F.plainAttrs_list PySem.F.slot_list_append PySem.F.type_list_append mt_append (pv 4) (pa_cons (by exact pe_heard T (by exact hr) (by exact TB) (by rfl) (by exact hmT) (by exact huT) (by rfl) (by exact LamX.lamS_by (sc := defScope s__law_are_refused) (by decide +kernel)) (by rfl) (by intro _ _ _ _ _; rfl) (fun A' outer' s' H' E' f' c' hrL => by exact (pe_call (E := E') G_ringsB hrL rfl T.m_rings_of T.k_rings_of T.b_rings_of .nil (L2.passes_call (L2.takes_of rfl rfl rfl rfl) (fun _ _ _ _ h => h)) (pa_cons (pv 6) pa_nil)))) pa_nil)))
      (pss_cons (ps_expr (pe_bm PySem.F.plainAttrs_list PySem.F.slot_list_append PySem.F.type_list_append mt_append (pv 4) (pa_cons (by exact pe_heard T (by exact hr) (by exact TB) (by rfl) (by exact hmT) (by exact huT) (by rfl) (by exact LamX.lamS_by (sc := defScope s__law_are_refused) (by decide +kernel)) (by rfl) (by intro _ _ _ _ _; rfl) (fun A' outer' s' H' E' f' c' hrL => by exact (pe_call (E := E') G_ringB hrL rfl T.m_is_ring_call T.k_is_ring_call T.b_is_ring_call .nil (L2.passes_call (L2.takes_of rfl rfl rfl rfl) (fun _ _ _ _ h => h)) (pa_cons (pv 6) (pa_cons pe_str (pa_cons pe_str pa_nil)))))) pa_nil)))
      (pss_cons (ps_expr (pe_bm PySem.F.plainAttrs_list PySem.F.slot_list_append PySem.F.type_list_append mt_append (pv 4) (pa_cons (by exact pe_heard T (by exact hr) (by exact TB) (by rfl) (by exact hmT) (by exact huT) (by rfl) (by exact LamX.lamS_by (sc := defScope s__law_are_refused) (by decide +kernel)) (by rfl) (by intro _ _ _ _ _; rfl) (fun A' outer' s' H' E' f' c' hrL => by exact (pe_call (E := E') G_ringB hrL rfl T.m_is_ring_call T.k_is_ring_call T.b_is_ring_call .nil (L2.passes_call (L2.takes_of rfl rfl rfl rfl) (fun _ _ _ _ h => h)) (pa_cons (pv 6) (pa_cons pe_str (pa_cons pe_int pa_nil)))))) pa_nil)))
      (pss_one (ps_set (i := 5) nd rfl (Or.inl rfl) (pe_op op_cat (pv 5) (pe_op op_rep (pe_lst (pa_cons (pe_tup (pa_cons pe_str (pa_cons pe_str (pa_cons (pe_un un_neg pe_int) pa_nil)))) pa_nil)) pe_int))))))))))
      (pss_cons (ps_set (i := 4) nd rfl (Or.inl rfl) (pe_op op_cat (pv 4) (pe_lst (pa_cons (pe_call G_rings_of hr_rings_of rfl T.m_rings_of T.k_rings_of T.b_rings_of .nil pass0 (pa_cons (pe_tup (pa_cons (pv 1) pa_nil)) pa_nil)) (pa_cons (pe_call G_rings_of hr_rings_of rfl T.m_rings_of T.k_rings_of T.b_rings_of .nil pass0 (pa_cons (pe_tup pa_nil) pa_nil)) (pa_cons (pe_call G_reached_from hr_reached_from rfl T.m_reached_from T.k_reached_from T.b_reached_from .nil pass0 (pa_cons (pe_tup (pa_cons (pv 1) pa_nil)) (pa_cons pe_str pa_nil))) (pa_cons (pe_call G_is_ring_call hr_is_ring_call rfl T.m_is_ring_call T.k_is_ring_call T.b_is_ring_call .nil pass0 (pa_cons (pe_tup (pa_cons (pv 1) pa_nil)) (pa_cons pe_str (pa_cons pe_str pa_nil)))) pa_nil)))))))
      (pss_one (ps_ret (by exact (pe_callG G__law_same gu hr__law_same rfl T.m__law_same T.k__law_same T.b__law_same .nil pass0 (pa_cons (pv 4) (pa_cons (pe_op op_cat (pv 5) (pe_lst (pa_cons (pe_tup (pa_cons (pe_tup (pa_cons pe_str pa_nil)) pa_nil)) (pa_cons (pe_tup pa_nil) (pa_cons (pe_tup (pa_cons pe_str pa_nil)) (pa_cons pe_bl pa_nil)))))) pa_nil))))))))))))), ?_⟩
  generalize htb : [(t1, missQ), (t, refQ)] = tb at htab
  obtain ⟨fp, fb, ft, hl, _⟩ := id hf
  refine goE (K := K) (l := l) (d := goodD) (by unfold goodD; repeat (first | exact ee_int | exact ee_str | exact ee_bl | exact ee_non | exact ee_neg | exact eb_nil | exact ee_var rfl (.int _) | exact ee_var rfl (by assumption) | apply eb_cons | apply ee_tup hl | apply ee_lst hl | apply ee_add | apply ee_cat hl | apply ee_cut hl | apply ee_rev hl | apply ee_list hl | (simp only [List.length_map, List.length_cons, List.length_nil, List.length_append, List.length_reverse, List.length_take, List.length_drop]; omega))) fun vg H1 e1 hvg => ?_
  have hl0 := hl
  have hl := e1 _ _ hl0
  refine goML (K := K) (l := l) (ds := badsA) (by unfold badsA; repeat (first | exact ee_int | exact ee_str | exact ee_bl | exact ee_non | exact ee_neg | exact eb_nil | exact ee_var rfl (.int _) | exact ee_var rfl (by assumption) | apply eb_cons | apply ee_tup hl | apply ee_lst hl | apply ee_add | apply ee_cat hl | apply ee_cut hl | apply ee_rev hl | apply ee_list hl | (simp only [List.length_map, List.length_cons, List.length_nil, List.length_append, List.length_reverse, List.length_take, List.length_drop]; omega))) (by decide) fun p2 x2 H2 e2 n2 ep2 d2 => ?_
  have hl1 := hl
  have hl := e2 _ _ hl1
  have hvg2 := dp_same (same_del l e2) hvg
  refine goMC (K := K) (l := l) (ds := badsA) (es := badsB) (em_var rfl ep2 d2) (em_lst (by unfold badsB; repeat (first | exact ee_int | exact ee_str | exact ee_bl | exact ee_non | exact ee_neg | exact eb_nil | exact ee_var rfl (.int _) | exact ee_var rfl (by assumption) | apply eb_cons | apply ee_tup hl | apply ee_lst hl | apply ee_add | apply ee_cat hl | apply ee_cut hl | apply ee_rev hl | apply ee_list hl | (simp only [List.length_map, List.length_cons, List.length_nil, List.length_append, List.length_reverse, List.length_take, List.length_drop]; omega))) (by decide)) (by decide) (by decide) fun pb xb H3 e3 n3 epb db => ?_
  have e03 := (e1.trans e2).trans e3
  have f3 := (FI.ref hf).ext e03
  have tab3 := htab.ext e03
  have hvg3 := dp_same (same_del l e3) hvg2
  have npb : pb ≠ l := fun z => by rw [z, hl] at n3; cases n3
  clear hvg hvg2 ep2 d2 n2 n3 e1 e2 e3 e03 hl0 hl1
  dsimp only [gName]
  refine at_st [some (.ref l), some vg, some (.ref pb), none, none, none, none] rfl ?_
  refine ⟨_, rfl, l, 14, q, ns, rfl, f3.f, by decide, by decide, fun bg H6 b0 b1 g6 k6 => ?_⟩
  have f6 := f3.draw g6 k6
  have tab6 := tabs_draw f3.f k6 tab3
  have hvg6 := dp_same (del_le H6 l) (dp_same k6 hvg3)
  have hpo6 := Same.off k6 npb epb
  have hxo6 : ∀ v ∈ xb, ∃ d, d ∈ badsA ++ badsB ∧ Dp K H6 v d := fun v m => by
    obtain ⟨d, md, h⟩ := dp_mem db m
    exact ⟨d, md, dp_same (del_le H6 l) (dp_same k6 h)⟩
  have lxo : xb.length = 14 := dp_len db
  clear f3 tab3 hvg3 db epb k6 g6
  refine ⟨(by show 0 ≤ sizeLine; decide), fun pt hpt => ⟨(by show 0 ≤ sizeLine; decide), fun pe hpe => ⟨_, _, rfl, ?_⟩⟩⟩
  have s7 := same_new hpt (.lst [])
  have s8 := same_new hpe (.lst [])
  have hpt8 := s8 _ _ (show (upd H6 pt (.lst [])) pt = some (.lst []) from upd_same)
  have hpe8 : (upd (upd H6 pt (.lst [])) pe (.lst [])) pe = some (.lst []) := upd_same
  have npe : pe ≠ pt := fun z => by rw [z, upd_same] at hpe; cases hpe
  have s68 := s7.trans s8
  generalize upd (upd H6 pt (.lst [])) pe (.lst []) = H8 at s68 hpt8 hpe8 ⊢
  clear s7 s8 hpe
  have hpo8 := s68 _ _ hpo6
  refine ⟨_, rfl, _, rfl, _, rfl, pb, _, rfl, SqL.of hpo8, fun y1 hy1 => ?_⟩
  have b1' := same_new hy1 (.lst (cutV xb (some bg) none))
  refine ⟨_, rfl, _, rfl, _, rfl, pb, _, rfl, SqL.of (b1' _ _ hpo8), fun y2 hy2 => ?_⟩
  have b2' := same_new hy2 (.lst (cutV xb none (some bg)))
  refine ⟨y1, y2, _, _, rfl, rfl, b2' _ _ (show (upd H8 y1 (.lst (cutV xb (some bg) none))) y1 = _ from upd_same), upd_same, ?_, fun y3 hy3 => ?_⟩
  · have c1 : (cutV xb (some bg) none).length ≤ xb.length := by unfold cutV; rw [List.length_take, List.length_drop]; omega
    have c2 : (cutV xb none (some bg)).length ≤ xb.length := by unfold cutV; rw [List.length_take, List.length_drop]; omega
    exact Nat.le_of_lt (szl (by omega))
  have b3' := same_new hy3 (.lst (cutV xb (some bg) none ++ cutV xb none (some bg)))
  refine ⟨5, rfl, y3, _, rfl, SqL.of upd_same, fun y4 hy4 => ⟨y4, rfl, ⟨_, SqL.of upd_same⟩, ?_⟩⟩
  have b4' := same_new hy4 (.lst (cutV (cutV xb (some bg) none ++ cutV xb none (some bg)) none (some 5)))
  have b84 := ((b1'.trans b2').trans b3').trans b4'
  have hz : ∀ v ∈ cutV (cutV xb (some bg) none ++ cutV xb none (some bg)) none (some 5), v ∈ xb := fun v m => (List.mem_append.mp (mem_cut m)).elim mem_cut mem_cut
  have lz : (cutV (cutV xb (some bg) none ++ cutV xb none (some bg)) none (some 5)).length ≤ 5 := by
    rw [show (some (5 : Int)) = some ((5 : Nat) : Int) from rfl, cut_hi, List.length_take]; omega
  have hsl : (upd (upd (upd (upd H8 y1 (.lst (cutV xb (some bg) none))) y2 (.lst (cutV xb none (some bg)))) y3 (.lst (cutV xb (some bg) none ++ cutV xb none (some bg)))) y4 (.lst (cutV (cutV xb (some bg) none ++ cutV xb none (some bg)) none (some 5)))) y4 = some (.lst (cutV (cutV xb (some bg) none ++ cutV xb none (some bg)) none (some 5))) := upd_same
  have n4 : y4 ≠ pt := fun z => by rw [z, ((b1'.trans b2').trans b3') _ _ hpt8] at hy4; cases hy4
  generalize cutV (cutV xb (some bg) none ++ cutV xb none (some bg)) none (some 5) = zs at hz lz hsl b84 ⊢
  generalize upd (upd (upd (upd H8 y1 (.lst (cutV xb (some bg) none))) y2 (.lst (cutV xb none (some bg)))) y3 (.lst (cutV xb (some bg) none ++ cutV xb none (some bg)))) y4 (.lst zs) = HX at hsl b84 ⊢
  clear b1' b2' b3' b4' hy1 hy2 hy3 hy4 hpo8
  have s6X := s68.trans b84
  have sR : Same (noTb H6) (Rest pt HX) := rest_new (LamX.ExtN.of s6X) hpt
  have rB : RI K pt tb HX HX [] := ⟨Same.refl _, ⟨[], b84 _ _ hpt8, .nil⟩, tab6.ext s6X⟩
  have hpeX := b84 _ _ hpe8
  have zvg : Dp K (Rest pt HX) vg goodD := dp_same sR (dp_tb hvg6)
  have zsl : Rest pt HX y4 = some (.lst zs) := rest_at hsl n4 fun _ z => nomatch z
  have zv : ∀ v ∈ zs, ∃ d, d ∈ badsA ++ badsB ∧ Dp K (Rest pt HX) v d := fun v m => by
    obtain ⟨d, md, h⟩ := hxo6 v (hz v m)
    exact ⟨d, md, dp_same sR (dp_tb h)⟩
  clear f6 tab6 hvg6 hpo6 hxo6 s68 hpt8 hpe8 b84 s6X sR hsl hz hpt
  refine for_list (K := K) (a := y4) (xs := zs) (fun i σ G0 => ∃ (o6 : Option V) (pe : Addr) (ds : List PyData) (ys : List V), σ = [some (.ref l), some vg, some (.ref pb), some (.int bg), some (.ref pt), some (.ref pe), o6] ∧ RI K pt tb HX G0 ds ∧ pe ≠ pt ∧ G0 pe = some (.lst ys) ∧ DpAll K (Rest pt G0) ys ds ∧ (∀ d ∈ ds, It2 d) ∧ ds.length ≤ 5 * i)
    ⟨none, pe, [], [], rfl, rB, npe, hpeX, .nil, (fun _ h => nomatch h), Nat.le_refl _⟩ ?_ ?_ ?_
  · rintro i σ G0 _ ⟨_, _, _, _, _, r, _⟩
    exact SqL.of (r.at zsl)
  · rintro i v σ G0 hiv ⟨o6, pe, ds, ys, rfl, r0, np, hp0, hpd0, hit, lds⟩
    have mv := List.mem_of_getElem? hiv
    have hil : i < zs.length := (List.getElem?_eq_some_iff.mp hiv).1
    obtain ⟨d, md, hvd⟩ := zv v mv
    obtain ⟨hsz, hno⟩ := bads_all d md
    have hsz := sz_of hsz
    have hv0 := dp_same r0.s hvd
    have r := r0.base
    have hpe0 : Rest pt G0 pe = some (.lst ys) := rest_at hp0 np fun _ z => nomatch z
    dsimp only [gName]
    refine at_st [some (.ref l), some vg, some (.ref pb), some (.int bg), some (.ref pt), some (.ref pe), some v] rfl ?_
    refine tellsU (M := T.C_Missing) (C := T.C_NotUsable) r rfl "sheets" (by omega) (fun G1 E Q r1 hm => ?_) (fun G2 r2 => ?_)
    · exact ⟨_, rfl, v, d, _, rfl, rfl, r1.dp hv0, hsz, hno, hm⟩
    refine tellsU (M := T.C_Missing) (C := T.C_NotUsable) r2 rfl "sheets" (by simp only [List.length_append, List.length_singleton]; omega) (fun G1 E Q r1 hm => ?_) (fun G3 r3 => ?_)
    · exact ⟨_, rfl, v, d, _, rfl, rfl, r1.dp hv0, hsz, hno, hm⟩
    refine tellsU (M := T.C_Missing) (C := T.C_NotUsable) r3 rfl "sheets" (by simp only [List.length_append, List.length_singleton]; omega) (fun G1 E Q r1 hm => ?_) (fun G4 r4 => ?_)
    · exact ⟨_, rfl, v, d, _, rfl, rfl, r1.dp hv0, hsz, hno, hm⟩
    refine tellsU (M := T.C_Missing) (C := T.C_NotUsable) r4 rfl "sheets" (by simp only [List.length_append, List.length_singleton]; omega) (fun G1 E Q r1 hm => ?_) (fun G5 r5 => ?_)
    · exact ⟨_, rfl, v, d, _, rfl, rfl, r1.dp hv0, hsz, hno, hm⟩
    refine tellsU (M := T.C_Missing) (C := T.C_NotUsable) r5 rfl "sheets" (by simp only [List.length_append, List.length_singleton]; omega) (fun G1 E Q r1 hm => ?_) (fun G6 r6 => ?_)
    · exact ⟨_, rfl, v, d, _, rfl, rfl, r1.dp hv0, hsz, hno, hm⟩
    clear r2 r3 r4 r5
    obtain ⟨_, hpt6, _⟩ := id r6.told
    have hpe6 := r6.at hpe0
    refine ⟨_, rfl, 1, rfl, (by show 3 ≤ sizeLine; decide), fun p1 hp1 => ⟨(by show 1 ≤ sizeLine; decide), fun p2 hp2 => ?_⟩⟩
    have a1 := same_new hp1 (.tup [.str "refused", .str "sheets", .int (-1)])
    have a2 := same_new hp2 (.lst [.ref p1])
    have n1 : p1 ≠ pt := fun z => by rw [z, hpt6] at hp1; cases hp1
    have hp1' := a2 _ _ (show (upd G6 p1 (.tup [.str "refused", .str "sheets", .int (-1)])) p1 = some (.tup [.str "refused", .str "sheets", .int (-1)]) from upd_same)
    have a12 := a1.trans a2
    have hp2' : (upd (upd G6 p1 (.tup [.str "refused", .str "sheets", .int (-1)])) p2 (.lst [.ref p1])) p2 = some (.lst [.ref p1]) := upd_same
    refine ⟨p2, (5 : Int), [.ref p1], rfl, rfl, hp2', by decide, by decide, (by show 1 * 5 ≤ sizeLine; decide), fun p3 hp3 => ?_⟩
    have a3 := same_new hp3 (.lst (List.replicate (5 : Int).toNat [V.ref p1]).flatten)
    have a13 := a12.trans a3
    have ly := dp_len hpd0
    refine ⟨pe, p3, ys, [.ref p1, .ref p1, .ref p1, .ref p1, .ref p1], rfl, rfl, a13 _ _ hpe6, upd_same, by rw [ly]; exact Nat.le_of_lt (szl (by show ds.length + 5 ≤ _; omega)), fun p4 hp4 => ?_⟩
    have a4 := same_new hp4 (.lst (ys ++ [.ref p1, .ref p1, .ref p1, .ref p1, .ref p1]))
    have n4 : p4 ≠ pt := fun z => by rw [z, a13 _ _ hpt6] at hp4; cases hp4
    have a14 := a13.trans a4
    have hp1'' := a4 _ _ (a3 _ _ hp1')
    refine ⟨_, p4, ds ++ [refD] ++ [refD] ++ [refD] ++ [refD] ++ [refD], _, rfl, ?_, n4, upd_same, ?_, ?_, ?_⟩
    · have := r6.ext a14
      exact ⟨r0.s.trans this.s, this.told, this.tab⟩
    · have hm := Dp.tup (K := K) (SqT.of (rest_at (pt := pt) hp1'' n1 (fun _ z => nomatch z))) (.cons (.str "refused") (.cons (.str "sheets") (.cons (.int (-1)) .nil)))
      simp only [List.append_assoc]
      exact dpAll_cat2 (dpAll_same (r6.s.trans (rest_same a14)) hpd0) (.cons hm (.cons hm (.cons hm (.cons hm (.cons hm .nil)))))
    · intro x m
      simp only [List.mem_append, List.mem_singleton] at m
      rcases m with ((((m | m) | m) | m) | m) | m
      · exact hit x m
      all_goals rw [m]; exact it_ref
    · simp only [List.length_append, List.length_singleton]; omega
  · rintro σ G0 ⟨o6, pe, ds, ys, rfl, r0, np, hp0, hpd0, hit, lds⟩
    obtain ⟨xs1, hx1, hxd1⟩ := r0.told
    have hvg0 := r0.dp zvg
    have hxd0 := dpAll_same (rest_le pt G0) hxd1
    have hyd0 := dpAll_same (rest_le pt G0) hpd0
    clear hxd1 hpd0 r0 zv zvg zsl rB
    obtain ⟨os, oh, oc⟩ := one_ok
    have osz := sz_of os
    have nd1 : ((csD oneD).map (·.1)).Nodup := by rw [oc]; decide
    have sm1 : Small (csD oneD) := by rw [oc]; exact small_one
    have ma : ("a" : Str) ∈ (csD oneD).map (·.1) := by rw [oc]; exact List.mem_singleton.mpr rfl
    have one : ∀ {G : Hp} {o : Addr}, Same G0 G → G o = some (.tup [vg]) → Dp K G (.ref o) oneD := fun e h => .tup (SqT.of h) (.cons (dp_same e hvg0) .nil)
    refine ⟨_, rfl, _, rfl, (by show 1 ≤ sizeLine; decide), fun o1 ho1 => ?_⟩
    have c1 := same_new ho1 (.tup [vg])
    refine ⟨_, oneD, rfl, one c1 upd_same, osz, oh, sm1, nd1, fun v1 G1 g1 dv1 => ?_⟩
    rw [oc, rings_one] at dv1
    have e1 := c1.trans g1
    refine ⟨(by show 0 ≤ sizeLine; decide), fun o2 ho2 => ?_⟩
    have c2 := same_new ho2 (.tup [])
    refine ⟨_, .tuple [], rfl, .tup (SqT.of upd_same) .nil, sz_of rfl, rfl, small_nil, List.nodup_nil, fun v2 G2 g2 dv2 => ?_⟩
    rw [show csD (.tuple []) = [] from rfl, rings_none] at dv2
    have e12 := c2.trans g2
    have e2 := e1.trans e12
    refine ⟨_, rfl, (by show 1 ≤ sizeLine; decide), fun o3 ho3 => ?_⟩
    have c3 := same_new ho3 (.tup [vg])
    refine ⟨_, "a", oneD, rfl, one (e2.trans c3) upd_same, osz, oh, sm1, ma, fun p3 G3 ks g3 hp3 nk ik => ?_⟩
    rw [oc] at ik
    have eks : srt ks = aL := (srt_same nk (by decide : aL.Nodup) fun z => by rw [ik, one_rc]; exact List.mem_singleton.symm).trans (srt_one "a")
    rw [eks] at hp3
    have e23 := c3.trans g3
    have e3 := e2.trans e23
    refine ⟨_, rfl, (by show 1 ≤ sizeLine; decide), fun o4 ho4 => ?_⟩
    have c4 := same_new ho4 (.tup [vg])
    refine ⟨_, "a", "a", oneD, rfl, one (e3.trans c4) upd_same, osz, oh, sm1, ma, ma, fun b4 G4 g4 hb4 => ?_⟩
    obtain rfl : b4 = true := hb4.mpr (.inl rfl)
    have e34 := c4.trans g4
    have e4 := e3.trans e34
    refine ⟨(by show 4 ≤ sizeLine; decide), fun o5 ho5 => ?_⟩
    have c5 := same_new ho5 (.lst [v1, v2, .ref p3, .bl true])
    refine ⟨pt, o5, xs1, _, rfl, rfl, (e4.trans c5) _ _ hx1, upd_same, by rw [dp_len hxd0]; exact Nat.le_of_lt (szl (by show ds.length + 4 ≤ _; omega)), fun o6 ho6 => ?_⟩
    have c6 := same_new ho6 (.lst (xs1 ++ [v1, v2, .ref p3, .bl true]))
    have d46 := c5.trans c6
    have ho6' : (upd (upd G4 o5 (.lst [v1, v2, .ref p3, .bl true])) o6 (.lst (xs1 ++ [v1, v2, .ref p3, .bl true]))) o6 = some (.lst (xs1 ++ [v1, v2, .ref p3, .bl true])) := upd_same
    generalize upd (upd G4 o5 (.lst [v1, v2, .ref p3, .bl true])) o6 (.lst (xs1 ++ [v1, v2, .ref p3, .bl true])) = G6 at d46 ho6' ⊢
    have e6 := e4.trans d46
    have dl1 : Dp K G6 v1 (.tuple [.tuple [.str "a"]]) := dp_same ((e12.trans e23).trans (e34.trans d46)) dv1
    have dl2 : Dp K G6 v2 (.tuple []) := dp_same (e23.trans (e34.trans d46)) dv2
    have dl3 : Dp K G6 (.ref p3) (.tuple [.str "a"]) := dp_same (e34.trans d46) (.tup (SqT.of hp3) (.cons (.str "a") .nil))
    have dT : DpAll K G6 (xs1 ++ [v1, v2, .ref p3, .bl true]) (ds ++ lastD) := dpAll_cat2 (dpAll_same e6 hxd0) (.cons dl1 (.cons dl2 (.cons dl3 (.cons (.bl true) .nil))))
    generalize xs1 ++ [v1, v2, .ref p3, .bl true] = xs6 at ho6' dT
    have hyd6 := dpAll_same e6 hyd0
    have hp6 := e6 _ _ hp0
    clear c1 c2 c3 c4 c5 c6 g1 g2 g3 g4 ho1 ho2 ho3 ho4 ho5 ho6 one
    refine ⟨_, rfl, _, rfl, (by show 1 ≤ sizeLine; decide), fun u1 hu1 => ⟨(by show 1 ≤ sizeLine; decide), fun u2 hu2 => ⟨(by show 0 ≤ sizeLine; decide), fun u3 hu3 => ⟨(by show 1 ≤ sizeLine; decide), fun u4 hu4 => ⟨(by show 4 ≤ sizeLine; decide), fun u5 hu5 => ?_⟩⟩⟩⟩⟩
    have w1 := same_new hu1 (.tup [.str "a"])
    have w2 := same_new hu2 (.tup [.ref u1])
    have w3 := same_new hu3 (.tup [])
    have w4 := same_new hu4 (.tup [.str "a"])
    have w5 := same_new hu5 (.lst [.ref u2, .ref u3, .ref u4, .bl true])
    refine ⟨pe, u5, ys, _, rfl, rfl, ((((w1.trans w2).trans w3).trans w4).trans w5) _ _ hp6, upd_same, by rw [dp_len hyd6]; exact Nat.le_of_lt (szl (by show ds.length + 4 ≤ _; omega)), fun u6 hu6 => ?_⟩
    have w6 := same_new hu6 (.lst (ys ++ [.ref u2, .ref u3, .ref u4, .bl true]))
    have w16 := ((((w1.trans w2).trans w3).trans w4).trans w5).trans w6
    have w36 := ((w3.trans w4).trans w5).trans w6
    have k1 := ((w2.trans w36)) _ _ (show (upd G6 u1 (.tup [.str "a"])) u1 = some (.tup [.str "a"]) from upd_same)
    have k2 := w36 _ _ (show (upd (upd G6 u1 (.tup [.str "a"])) u2 (.tup [.ref u1])) u2 = some (.tup [.ref u1]) from upd_same)
    have k3 := ((w4.trans w5).trans w6) _ _ (show (upd (upd (upd G6 u1 (.tup [.str "a"])) u2 (.tup [.ref u1])) u3 (.tup [])) u3 = some (.tup []) from upd_same)
    have k4 := (w5.trans w6) _ _ (show (upd (upd (upd (upd G6 u1 (.tup [.str "a"])) u2 (.tup [.ref u1])) u3 (.tup [])) u4 (.tup [.str "a"])) u4 = some (.tup [.str "a"]) from upd_same)
    refine ⟨.ref o6, .ref u6, .list (ds ++ lastD), rfl, .lst (SqL.of (w16 _ _ ho6')) (dpAll_same w16 dT), .lst (SqL.of upd_same) (dpAll_cat2 (dpAll_same w16 hyd6) (.cons (.tup (SqT.of k2) (.cons (.tup (SqT.of k1) (.cons (.str "a") .nil)) .nil)) (.cons (.tup (SqT.of k3) .nil) (.cons (.tup (SqT.of k4) (.cons (.str "a") .nil)) (.cons (.bl true) .nil))))), items_rp2 (fun d m => ?_) ?_, k _⟩
    · rcases List.mem_append.mp m with m | m
      · exact hit d m
      · obtain ⟨q1, q2, q3⟩ := it_last d m
        exact ⟨q1, q2, q3⟩
    · rw [List.length_append]; show ds.length + 4 ≤ 80; omega
end
end Lk

set_option Elab.async false
set_option linter.all false
set_option maxRecDepth 100000
set_option maxHeartbeats 4000000
set_option pp.maxSteps 1500
namespace Lk
open PySem PySem.Spec PyProof.Rows L2
def spLaw (t1 t2 : Addr) (K : PySem.W.Frag) : Sp := fun vs H Q _ => ∃ (a : Addr) (ns : List Int), vs = [.ref a] ∧ SqL K H a (iV ns) ∧ ns.length ≤ 63 ∧ H t1 = some (.tbl #[]) ∧ H t2 = some (.tbl #[]) ∧ ∀ H', Q (.bl true) H'
section
variable {P : Program} {w : World} {K : PySem.W.Frag} {mg : Str → Option Value} {base : Heap}
theorem ok_law (T : Txt K mg) {c1 t1 c2 t2 : Addr} (hT1 : TabAt K T.f__law_are_missing c1 t1) (TB1 : LamX.TabB base mg c1 t1) (hT2 : TabAt K T.f__law_are_refused c2 t2) (TB2 : LamX.TabB base mg c2 t2) (ntt : t1 ≠ t2) : FnG P w K mg base CX0 11 T.f_law T.d_law ["_law_script"] (spLaw t1 t2 K) := by
  have nd := sc_law.nd
  refine okG T.F_law sc_law (fun vs H Q E h => ?_) (fun cdv A outer s H vs Q E gu0 hr h => ?_)
  · obtain ⟨a, ns, rfl, _⟩ := h
    rfl
  obtain ⟨a, ns, rfl, hS, h63, ht1, ht2, k⟩ := h
  have gu : (A.deeper (envOfC "law" (defScope s_law) s.heap.objs.size T.f_law cdv)).guards = some [] := gu0
  have G__law_feed : FnOk P w K mg base CX0 1 _ _ _ (spFeed K) := ok_feed T
  have hr__law_feed : Room 1 _ := hr.mono (by omega)
  have G__law_tome : FnOk P w K mg base CX0 2 _ _ _ (spTome K) := ok_tome T
  have hr__law_tome : Room 2 _ := hr.mono (by omega)
  have G__law_ways : FnOk P w K mg base CX0 1 _ _ _ (spWays K) := ok_ways T
  have hr__law_ways : Room 1 _ := hr.mono (by omega)
  have G__law_are_reached : FnG P w K mg base CX0 8 _ _ _ (spReachedL K) := ok_are_reached T
  have hr__law_are_reached : Room 8 _ := hr.mono (by omega)
  have G__law_are_missing : FnG P w K mg base CX0 10 _ _ _ (spMissing [(t1, missQ), (t2, refQ)] K) := ok_missing T hT1 TB1 ntt
  have hr__law_are_missing : Room 10 _ := hr
  have G__law_are_refused : FnG P w K mg base CX0 10 _ _ _ (spRefused [(t1, missQ), (t2, refQ)] K) := ok_refused T hT2 TB2 ntt
  have hr__law_are_refused : Room 10 _ := hr
  refine ⟨_, (pss_cons (ps_set (i := 1) nd rfl (Or.inl rfl) (pe_call G__law_feed hr__law_feed rfl T.m__law_feed T.k__law_feed T.b__law_feed .nil pass0 (pa_cons (pv 0) pa_nil)))
      (pss_cons (ps_asg (pe_call G__law_tome hr__law_tome rfl T.m__law_tome T.k__law_tome T.b__law_tome .nil pass0 (pa_cons (pv 1) pa_nil)) (pg_tup rfl (pgs_cons (pg_name (i := 2) nd rfl (Or.inl rfl)) (pgs_cons (pg_name (i := 3) nd rfl (Or.inl rfl)) (pgs_cons (pg_name (i := 4) nd rfl (Or.inl rfl)) pgs_nil)))))
      (pss_cons (ps_set (i := 5) nd rfl (Or.inl rfl) (pe_call G__law_ways hr__law_ways rfl T.m__law_ways T.k__law_ways T.b__law_ways .nil pass0 (pa_cons (pv 2) (pa_cons (pv 3) pa_nil))))
      (pss_cons (ps_if (pt_not (pt_val (by exact (pe_callG G__law_are_reached gu hr__law_are_reached rfl T.m__law_are_reached T.k__law_are_reached T.b__law_are_reached .nil pass0 (pa_cons (pv 1) (pa_cons (pv 2) (pa_cons (pv 3) (pa_cons (pv 5) pa_nil)))))))) (pss_one (ps_ret pe_bl)) pss_nil)
      (pss_one (ps_ret (pe_and (by exact (pe_callG G__law_are_missing gu hr__law_are_missing rfl T.m__law_are_missing T.k__law_are_missing T.b__law_are_missing .nil pass0 (pa_cons (pv 1) (pa_cons (pv 2) (pa_cons (pv 3) (pa_cons (pv 4) pa_nil)))))) (pe_one (by exact (pe_callG G__law_are_refused gu hr__law_are_refused rfl T.m__law_are_refused T.k__law_are_refused T.b__law_are_refused .nil pass0 (pa_cons (pv 1) pa_nil))))))))))), ?_⟩
  refine ⟨_, rfl, a, ns, rfl, hS, h63, fun l H1 e1 q ms hl0 f1 => ?_⟩
  have nl : ∀ {t : Addr}, H t = some (.tbl #[]) → t ≠ l := fun h z => by rw [z, hl0] at h; cases h
  refine ⟨_, rfl, l, q, ms, rfl, f1, fun tp R TA G H2 rs ts gs xs dr f2 htp hR hx hTA hG => ?_⟩
  refine ⟨tp, _, rfl, htp, rfl, _, _, rfl, _, _, rfl, _, _, rfl, rfl, ?_⟩
  refine ⟨_, rfl, _, rfl, R, TA, xs, rs, ts, gs, rfl, SqL.of (del_at hR).1, dpAll_same (del_le H2 l) hx, SqL.of (del_at hTA).1, dr, fun W H3 la f wy hw => ?_⟩
  have e3 := wy.base
  have f3 := f2.ext e3
  have hl2 : ∃ zs, H2 l = some (.lst zs) := by
    obtain ⟨_, _, _, h, _⟩ := f2.f
    exact ⟨_, h⟩
  obtain ⟨zl, hl2⟩ := hl2
  have wz : WY (fun _ => none) (del H3 l) W ts la f := wy.bare.del (fun z => by have := wy.wn; rw [z, hl2] at this; cases this) fun t m z => by have := wy.ln t m; rw [z, hl2] at this; cases this
  refine ⟨_, rfl, _, rfl, _, rfl, _, rfl, l, q, R, TA, W, ms, rs, ts, gs, xs, la, f, rfl, f3.f, same_del l e3 _ _ hR, dpAll_same (same_del l e3) hx, same_del l e3 _ _ hTA, wz, hw, dr, fun H4 f4 => ?_⟩
  have s24 := (same_del l e3).trans f4.s
  have f14 := f3.draw f4.f f4.s
  refine ⟨_, rfl, iteF ?_⟩
  have at1 := Same.off f14.s (nl ht1) (e1 _ _ ht1)
  have at2 := Same.off f14.s (nl ht2) (e1 _ _ ht2)
  have tabs : LamX.Tabs [(t1, missQ), (t2, refQ)] H4 := fun p m => by
    rcases List.mem_cons.mp m with rfl | m
    · exact LamX.TabS.nil at1
    · rw [List.mem_singleton.mp m]; exact LamX.TabS.nil at2
  refine ⟨_, rfl, _, rfl, _, rfl, _, rfl, l, q, R, TA, G, ms, rs, ts, gs, xs, rfl, f4.f, s24 _ _ hR, dpAll_same s24 hx, s24 _ _ hTA, s24 _ _ hG, dr, tabs, fun H5 f5 tab5 => ?_⟩
  refine ⟨true, rfl, iteT ?_⟩
  exact ⟨_, rfl, l, q, ms, rfl, f5, tab5, k⟩
end
end Lk

set_option Elab.async false
set_option linter.all false
set_option maxRecDepth 100000
set_option maxHeartbeats 4000000
namespace Lk
open PySem PySem.Spec PyProof.Rows L2
theorem all_mk {l : PySem.W.OpenLaw} {w : World} {K : PySem.W.Frag} {h : Heap} {mg : Str → Option Value} {fa : Addr} (X : K.In h) (G : h.Ns mainGlobals mg) (hfa : mg "law" = some (.ref fa))
    {C_NeedError : Addr}
    {C_UnitError : Addr}
    {C_LinkError : Addr}
    {C_NotUsable : Addr}
    {C_Missing : Addr}
    {f_NotUsable__init__ : Addr} {oc0 kV0 dc0 pm0 cd0 ct0 : Value} {od0 an0 : Option Addr} {sl0 : Array (Option Value)}
    {f_Missing__init__ : Addr} {oc1 kV1 dc1 pm1 cd1 ct1 : Value} {od1 an1 : Option Addr} {sl1 : Array (Option Value)}
    {f_is_integer : Addr} {oc2 kV2 dc2 pm2 cd2 ct2 : Value} {od2 an2 : Option Addr} {sl2 : Array (Option Value)}
    {f_is_number : Addr} {oc3 kV3 dc3 pm3 cd3 ct3 : Value} {od3 an3 : Option Addr} {sl3 : Array (Option Value)}
    {f_is_title : Addr} {oc4 kV4 dc4 pm4 cd4 ct4 : Value} {od4 an4 : Option Addr} {sl4 : Array (Option Value)}
    {f_is_sheet : Addr} {oc5 kV5 dc5 pm5 cd5 ct5 : Value} {od5 an5 : Option Addr} {sl5 : Array (Option Value)}
    {f__is_call : Addr} {oc6 kV6 dc6 pm6 cd6 ct6 : Value} {od6 an6 : Option Addr} {sl6 : Array (Option Value)}
    {f_is_sheets : Addr} {oc7 kV7 dc7 pm7 cd7 ct7 : Value} {od7 an7 : Option Addr} {sl7 : Array (Option Value)}
    {f_reached_from : Addr} {oc8 kV8 dc8 pm8 cd8 ct8 : Value} {od8 an8 : Option Addr} {sl8 : Array (Option Value)}
    {f_rings_of : Addr} {oc9 kV9 dc9 pm9 cd9 ct9 : Value} {od9 an9 : Option Addr} {sl9 : Array (Option Value)}
    {f_is_ring_call : Addr} {oc10 kV10 dc10 pm10 cd10 ct10 : Value} {od10 an10 : Option Addr} {sl10 : Array (Option Value)}
    {f_reached_tables : Addr} {oc11 kV11 dc11 pm11 cd11 ct11 : Value} {od11 an11 : Option Addr} {sl11 : Array (Option Value)}
    {f__reached : Addr} {oc12 kV12 dc12 pm12 cd12 ct12 : Value} {od12 an12 : Option Addr} {sl12 : Array (Option Value)}
    {f__check_title : Addr} {oc13 kV13 dc13 pm13 cd13 ct13 : Value} {od13 an13 : Option Addr} {sl13 : Array (Option Value)}
    {f__law_feed : Addr} {oc14 kV14 dc14 pm14 cd14 ct14 : Value} {od14 an14 : Option Addr} {sl14 : Array (Option Value)}
    {f__law_pick : Addr} {oc15 kV15 dc15 pm15 cd15 ct15 : Value} {od15 an15 : Option Addr} {sl15 : Array (Option Value)}
    {f__law_same : Addr} {oc16 kV16 dc16 pm16 cd16 ct16 : Value} {od16 an16 : Option Addr} {sl16 : Array (Option Value)}
    {f__law_said : Addr} {oc17 kV17 dc17 pm17 cd17 ct17 : Value} {od17 an17 : Option Addr} {sl17 : Array (Option Value)}
    {f__law_tome : Addr} {oc18 kV18 dc18 pm18 cd18 ct18 : Value} {od18 an18 : Option Addr} {sl18 : Array (Option Value)}
    {f__law_ways : Addr} {oc19 kV19 dc19 pm19 cd19 ct19 : Value} {od19 an19 : Option Addr} {sl19 : Array (Option Value)}
    {f__law_rings : Addr} {oc20 kV20 dc20 pm20 cd20 ct20 : Value} {od20 an20 : Option Addr} {sl20 : Array (Option Value)}
    {f__law_are_reached : Addr} {oc21 kV21 dc21 pm21 cd21 ct21 : Value} {od21 an21 : Option Addr} {sl21 : Array (Option Value)}
    {f__law_are_missing : Addr} {oc22 kV22 dc22 pm22 cd22 ct22 : Value} {od22 an22 : Option Addr} {sl22 : Array (Option Value)}
    {f__law_are_refused : Addr} {oc23 kV23 dc23 pm23 cd23 ct23 : Value} {od23 an23 : Option Addr} {sl23 : Array (Option Value)}
    {f_law : Addr} {oc24 kV24 dc24 pm24 cd24 ct24 : Value} {od24 an24 : Option Addr} {sl24 : Array (Option Value)}
    {nm0 q0 : Str} {N0 : Addr} {bs0 bm0 : List Value} {sn0 : List Str} {sub0 : List Value} {ab0 : Bool} {col0 : Option Bool} {dd0 : Option Addr} {m00 m10 m20 m30 m50 : Option Value}
    {nm1 q1 : Str} {N1 : Addr} {bs1 bm1 : List Value} {sn1 : List Str} {sub1 : List Value} {ab1 : Bool} {col1 : Option Bool} {dd1 : Option Addr} {m01 m11 m21 m31 m51 : Option Value}
    {t_LETTERS : Tok}
    {t_DIGITS : Tok}
    {t_LONGEST_TITLE : Tok}
    {a_KEPT_WORDS : Addr} {dd_KEPT_WORDS : Option Addr} {its_KEPT_WORDS : Array Value} {n_KEPT_WORDS : Nat} {sl_KEPT_WORDS : Array (Option Value)}
    {cT tT : Addr} {ecT : Value} {dcT : Option Addr} {vsT : Array Value} {slT : Array (Option Value)}
    {cU tU : Addr} {ecU : Value} {dcU : Option Addr} {vsU : Array Value} {slU : Array (Option Value)}
    (aC_NeedError : PySem.W.nsIn K mainGlobals "NeedError" = some (some (.ref C_NeedError)))
    (aC_UnitError : PySem.W.nsIn K mainGlobals "UnitError" = some (some (.ref C_UnitError)))
    (aC_LinkError : PySem.W.nsIn K mainGlobals "LinkError" = some (some (.ref C_LinkError)))
    (aC_NotUsable : PySem.W.nsIn K mainGlobals "NotUsable" = some (some (.ref C_NotUsable)))
    (aC_Missing : PySem.W.nsIn K mainGlobals "Missing" = some (some (.ref C_Missing)))
    (a0 : PySem.W.findIn K (.ref C_NotUsable) "__init__" = some (some (.ref f_NotUsable__init__)))
    (t0 : PySem.W.typeIn K (.ref f_NotUsable__init__) = some (.type "function"))
    (l0 : K.lookup f_NotUsable__init__ = some ⟨oc0, od0, .func (PySem.W.fnOf "__init__" "NotUsable.__init__" (defArgs s_NotUsable___init__) (defBody s_NotUsable___init__) (defScope s_NotUsable___init__) .none kV0 dc0 pm0 an0 cd0 ct0), sl0⟩)
    (c0 : PySem.W.codeIn K cd0 "NotUsable.__init__" = true)
    (k0 : PySem.W.keepIn K (.ref f_NotUsable__init__) = true)
    (a1 : PySem.W.findIn K (.ref C_Missing) "__init__" = some (some (.ref f_Missing__init__)))
    (t1 : PySem.W.typeIn K (.ref f_Missing__init__) = some (.type "function"))
    (l1 : K.lookup f_Missing__init__ = some ⟨oc1, od1, .func (PySem.W.fnOf "__init__" "Missing.__init__" (defArgs s_Missing___init__) (defBody s_Missing___init__) (defScope s_Missing___init__) .none kV1 dc1 pm1 an1 cd1 ct1), sl1⟩)
    (c1 : PySem.W.codeIn K cd1 "Missing.__init__" = true)
    (k1 : PySem.W.keepIn K (.ref f_Missing__init__) = true)
    (a2 : PySem.W.nsIn K mainGlobals "is_integer" = some (some (.ref f_is_integer)))
    (l2 : K.lookup f_is_integer = some ⟨oc2, od2, .func (PySem.W.fnOf "is_integer" "is_integer" (defArgs s_is_integer) (defBody s_is_integer) (defScope s_is_integer) .none kV2 dc2 pm2 an2 cd2 ct2), sl2⟩)
    (c2 : PySem.W.codeIn K cd2 "is_integer" = true)
    (k2 : PySem.W.keepIn K (.ref f_is_integer) = true)
    (a3 : PySem.W.nsIn K mainGlobals "is_number" = some (some (.ref f_is_number)))
    (l3 : K.lookup f_is_number = some ⟨oc3, od3, .func (PySem.W.fnOf "is_number" "is_number" (defArgs s_is_number) (defBody s_is_number) (defScope s_is_number) .none kV3 dc3 pm3 an3 cd3 ct3), sl3⟩)
    (c3 : PySem.W.codeIn K cd3 "is_number" = true)
    (k3 : PySem.W.keepIn K (.ref f_is_number) = true)
    (a4 : PySem.W.nsIn K mainGlobals "is_title" = some (some (.ref f_is_title)))
    (l4 : K.lookup f_is_title = some ⟨oc4, od4, .func (PySem.W.fnOf "is_title" "is_title" (defArgs s_is_title) (defBody s_is_title) (defScope s_is_title) .none kV4 dc4 pm4 an4 cd4 ct4), sl4⟩)
    (c4 : PySem.W.codeIn K cd4 "is_title" = true)
    (k4 : PySem.W.keepIn K (.ref f_is_title) = true)
    (a5 : PySem.W.nsIn K mainGlobals "is_sheet" = some (some (.ref f_is_sheet)))
    (l5 : K.lookup f_is_sheet = some ⟨oc5, od5, .func (PySem.W.fnOf "is_sheet" "is_sheet" (defArgs s_is_sheet) (defBody s_is_sheet) (defScope s_is_sheet) .none kV5 dc5 pm5 an5 cd5 ct5), sl5⟩)
    (c5 : PySem.W.codeIn K cd5 "is_sheet" = true)
    (k5 : PySem.W.keepIn K (.ref f_is_sheet) = true)
    (a6 : PySem.W.nsIn K mainGlobals "_is_call" = some (some (.ref f__is_call)))
    (l6 : K.lookup f__is_call = some ⟨oc6, od6, .func (PySem.W.fnOf "_is_call" "_is_call" (defArgs s__is_call) (defBody s__is_call) (defScope s__is_call) .none kV6 dc6 pm6 an6 cd6 ct6), sl6⟩)
    (c6 : PySem.W.codeIn K cd6 "_is_call" = true)
    (k6 : PySem.W.keepIn K (.ref f__is_call) = true)
    (a7 : PySem.W.nsIn K mainGlobals "is_sheets" = some (some (.ref f_is_sheets)))
    (l7 : K.lookup f_is_sheets = some ⟨oc7, od7, .func (PySem.W.fnOf "is_sheets" "is_sheets" (defArgs s_is_sheets) (defBody s_is_sheets) (defScope s_is_sheets) .none kV7 dc7 pm7 an7 cd7 ct7), sl7⟩)
    (c7 : PySem.W.codeIn K cd7 "is_sheets" = true)
    (k7 : PySem.W.keepIn K (.ref f_is_sheets) = true)
    (a8 : PySem.W.nsIn K mainGlobals "reached_from" = some (some (.ref f_reached_from)))
    (l8 : K.lookup f_reached_from = some ⟨oc8, od8, .func (PySem.W.fnOf "reached_from" "reached_from" (defArgs s_reached_from) (defBody s_reached_from) (defScope s_reached_from) .none kV8 dc8 pm8 an8 cd8 ct8), sl8⟩)
    (c8 : PySem.W.codeIn K cd8 "reached_from" = true)
    (k8 : PySem.W.keepIn K (.ref f_reached_from) = true)
    (a9 : PySem.W.nsIn K mainGlobals "rings_of" = some (some (.ref f_rings_of)))
    (l9 : K.lookup f_rings_of = some ⟨oc9, od9, .func (PySem.W.fnOf "rings_of" "rings_of" (defArgs s_rings_of) (defBody s_rings_of) (defScope s_rings_of) .none kV9 dc9 pm9 an9 cd9 ct9), sl9⟩)
    (c9 : PySem.W.codeIn K cd9 "rings_of" = true)
    (k9 : PySem.W.keepIn K (.ref f_rings_of) = true)
    (a10 : PySem.W.nsIn K mainGlobals "is_ring_call" = some (some (.ref f_is_ring_call)))
    (l10 : K.lookup f_is_ring_call = some ⟨oc10, od10, .func (PySem.W.fnOf "is_ring_call" "is_ring_call" (defArgs s_is_ring_call) (defBody s_is_ring_call) (defScope s_is_ring_call) .none kV10 dc10 pm10 an10 cd10 ct10), sl10⟩)
    (c10 : PySem.W.codeIn K cd10 "is_ring_call" = true)
    (k10 : PySem.W.keepIn K (.ref f_is_ring_call) = true)
    (a11 : PySem.W.nsIn K mainGlobals "reached_tables" = some (some (.ref f_reached_tables)))
    (l11 : K.lookup f_reached_tables = some ⟨oc11, od11, .func (PySem.W.fnOf "reached_tables" "reached_tables" (defArgs s_reached_tables) (defBody s_reached_tables) (defScope s_reached_tables) .none kV11 dc11 pm11 an11 cd11 ct11), sl11⟩)
    (c11 : PySem.W.codeIn K cd11 "reached_tables" = true)
    (k11 : PySem.W.keepIn K (.ref f_reached_tables) = true)
    (a12 : PySem.W.nsIn K mainGlobals "_reached" = some (some (.ref f__reached)))
    (l12 : K.lookup f__reached = some ⟨oc12, od12, .func (PySem.W.fnOf "_reached" "_reached" (defArgs s__reached) (defBody s__reached) (defScope s__reached) .none kV12 dc12 pm12 an12 cd12 ct12), sl12⟩)
    (c12 : PySem.W.codeIn K cd12 "_reached" = true)
    (k12 : PySem.W.keepIn K (.ref f__reached) = true)
    (a13 : PySem.W.nsIn K mainGlobals "_check_title" = some (some (.ref f__check_title)))
    (l13 : K.lookup f__check_title = some ⟨oc13, od13, .func (PySem.W.fnOf "_check_title" "_check_title" (defArgs s__check_title) (defBody s__check_title) (defScope s__check_title) .none kV13 dc13 pm13 an13 cd13 ct13), sl13⟩)
    (c13 : PySem.W.codeIn K cd13 "_check_title" = true)
    (k13 : PySem.W.keepIn K (.ref f__check_title) = true)
    (a14 : PySem.W.nsIn K mainGlobals "_law_feed" = some (some (.ref f__law_feed)))
    (l14 : K.lookup f__law_feed = some ⟨oc14, od14, .func (PySem.W.fnOf "_law_feed" "_law_feed" (defArgs s__law_feed) (defBody s__law_feed) (defScope s__law_feed) .none kV14 dc14 pm14 an14 cd14 ct14), sl14⟩)
    (c14 : PySem.W.codeIn K cd14 "_law_feed" = true)
    (k14 : PySem.W.keepIn K (.ref f__law_feed) = true)
    (a15 : PySem.W.nsIn K mainGlobals "_law_pick" = some (some (.ref f__law_pick)))
    (l15 : K.lookup f__law_pick = some ⟨oc15, od15, .func (PySem.W.fnOf "_law_pick" "_law_pick" (defArgs s__law_pick) (defBody s__law_pick) (defScope s__law_pick) .none kV15 dc15 pm15 an15 cd15 ct15), sl15⟩)
    (c15 : PySem.W.codeIn K cd15 "_law_pick" = true)
    (k15 : PySem.W.keepIn K (.ref f__law_pick) = true)
    (a16 : PySem.W.nsIn K mainGlobals "_law_same" = some (some (.ref f__law_same)))
    (l16 : K.lookup f__law_same = some ⟨oc16, od16, .func (PySem.W.fnOf "_law_same" "_law_same" (defArgs s__law_same) (defBody s__law_same) (defScope s__law_same) .none kV16 dc16 pm16 an16 cd16 ct16), sl16⟩)
    (c16 : PySem.W.codeIn K cd16 "_law_same" = true)
    (k16 : PySem.W.keepIn K (.ref f__law_same) = true)
    (a17 : PySem.W.nsIn K mainGlobals "_law_said" = some (some (.ref f__law_said)))
    (l17 : K.lookup f__law_said = some ⟨oc17, od17, .func (PySem.W.fnOf "_law_said" "_law_said" (defArgs s__law_said) (defBody s__law_said) (defScope s__law_said) .none kV17 dc17 pm17 an17 cd17 ct17), sl17⟩)
    (c17 : PySem.W.codeIn K cd17 "_law_said" = true)
    (k17 : PySem.W.keepIn K (.ref f__law_said) = true)
    (a18 : PySem.W.nsIn K mainGlobals "_law_tome" = some (some (.ref f__law_tome)))
    (l18 : K.lookup f__law_tome = some ⟨oc18, od18, .func (PySem.W.fnOf "_law_tome" "_law_tome" (defArgs s__law_tome) (defBody s__law_tome) (defScope s__law_tome) .none kV18 dc18 pm18 an18 cd18 ct18), sl18⟩)
    (c18 : PySem.W.codeIn K cd18 "_law_tome" = true)
    (k18 : PySem.W.keepIn K (.ref f__law_tome) = true)
    (a19 : PySem.W.nsIn K mainGlobals "_law_ways" = some (some (.ref f__law_ways)))
    (l19 : K.lookup f__law_ways = some ⟨oc19, od19, .func (PySem.W.fnOf "_law_ways" "_law_ways" (defArgs s__law_ways) (defBody s__law_ways) (defScope s__law_ways) .none kV19 dc19 pm19 an19 cd19 ct19), sl19⟩)
    (c19 : PySem.W.codeIn K cd19 "_law_ways" = true)
    (k19 : PySem.W.keepIn K (.ref f__law_ways) = true)
    (a20 : PySem.W.nsIn K mainGlobals "_law_rings" = some (some (.ref f__law_rings)))
    (l20 : K.lookup f__law_rings = some ⟨oc20, od20, .func (PySem.W.fnOf "_law_rings" "_law_rings" (defArgs s__law_rings) (defBody s__law_rings) (defScope s__law_rings) .none kV20 dc20 pm20 an20 cd20 ct20), sl20⟩)
    (c20 : PySem.W.codeIn K cd20 "_law_rings" = true)
    (k20 : PySem.W.keepIn K (.ref f__law_rings) = true)
    (a21 : PySem.W.nsIn K mainGlobals "_law_are_reached" = some (some (.ref f__law_are_reached)))
    (l21 : K.lookup f__law_are_reached = some ⟨oc21, od21, .func (PySem.W.fnOf "_law_are_reached" "_law_are_reached" (defArgs s__law_are_reached) (defBody s__law_are_reached) (defScope s__law_are_reached) .none kV21 dc21 pm21 an21 cd21 ct21), sl21⟩)
    (c21 : PySem.W.codeIn K cd21 "_law_are_reached" = true)
    (k21 : PySem.W.keepIn K (.ref f__law_are_reached) = true)
    (a22 : PySem.W.nsIn K mainGlobals "_law_are_missing" = some (some (.ref f__law_are_missing)))
    (l22 : K.lookup f__law_are_missing = some ⟨oc22, od22, .func (PySem.W.fnOf "_law_are_missing" "_law_are_missing" (defArgs s__law_are_missing) (defBody s__law_are_missing) (defScope s__law_are_missing) .none kV22 dc22 pm22 an22 cd22 ct22), sl22⟩)
    (c22 : PySem.W.codeIn K cd22 "_law_are_missing" = true)
    (k22 : PySem.W.keepIn K (.ref f__law_are_missing) = true)
    (a23 : PySem.W.nsIn K mainGlobals "_law_are_refused" = some (some (.ref f__law_are_refused)))
    (l23 : K.lookup f__law_are_refused = some ⟨oc23, od23, .func (PySem.W.fnOf "_law_are_refused" "_law_are_refused" (defArgs s__law_are_refused) (defBody s__law_are_refused) (defScope s__law_are_refused) .none kV23 dc23 pm23 an23 cd23 ct23), sl23⟩)
    (c23 : PySem.W.codeIn K cd23 "_law_are_refused" = true)
    (k23 : PySem.W.keepIn K (.ref f__law_are_refused) = true)
    (a24 : PySem.W.nsIn K mainGlobals "law" = some (some (.ref f_law)))
    (l24 : K.lookup f_law = some ⟨oc24, od24, .func (PySem.W.fnOf "law" "law" (defArgs s_law) (defBody s_law) (defScope s_law) .none kV24 dc24 pm24 an24 cd24 ct24), sl24⟩)
    (c24 : PySem.W.codeIn K cd24 "law" = true)
    (k24 : PySem.W.keepIn K (.ref f_law) = true)
    (xL0 : K.lookup C_NotUsable = some (excClassObj nm0 q0 C_NotUsable N0 bs0 bm0 true sn0 sub0 ab0 col0 dd0 m00 m10 m20 m30 m50 "ValueError.__new__"))
    (xR0 : PySem.HandSPX.refsVE bm0 = true)
    (sa0 : PySem.W.findIn K (.ref C_NotUsable) "__setattr__" = some (some (.builtin "object.__setattr__")))
    (ga0 : PySem.W.findIn K (.ref C_NotUsable) "__getattribute__" = some (some (.builtin "BaseException.__getattribute__")))
    (gg0 : PySem.W.findIn K (.ref C_NotUsable) "__getattr__" = some none)
    (n0_word : PySem.W.findIn K (.ref C_NotUsable) "word" = some none)
    (n0_at : PySem.W.findIn K (.ref C_NotUsable) "at" = some none)
    (eC0 : PySem.W.subIn K (.ref C_NotUsable) (.type "BaseException") = some true)
    (tC0 : PySem.W.typeIn K (.ref C_NotUsable) = some (.type "type"))
    (kC0 : PySem.W.keepIn K (.ref C_NotUsable) = true)
    (hC0 : PySem.W.hasDictIn K C_NotUsable = true)
    (cl0 : PySem.W.findIn K (.ref C_NotUsable) "__class__" = some (some (.builtin "object.__class__")))
    (mo0 : PySem.W.mroIn K C_NotUsable (.type "object") = some true)
    (q3_NotUsable_LinkError : PySem.W.subIn K (.ref C_NotUsable) (.ref C_LinkError) = some false)
    (q4_NotUsable_LinkError : (Value.ref C_NotUsable == Value.ref C_LinkError) = false)
    (q3_NotUsable_NotUsable : PySem.W.subIn K (.ref C_NotUsable) (.ref C_NotUsable) = some true)
    (q3_NotUsable_UnitError : PySem.W.subIn K (.ref C_NotUsable) (.ref C_UnitError) = some true)
    (q3_NotUsable_Missing : PySem.W.subIn K (.ref C_NotUsable) (.ref C_Missing) = some false)
    (q4_NotUsable_Missing : (Value.ref C_NotUsable == Value.ref C_Missing) = false)
    (q7_NotUsable_ValueError : PySem.W.subIn K (.ref C_NotUsable) (.type "ValueError") = some true)
    (xL1 : K.lookup C_Missing = some (excClassObj nm1 q1 C_Missing N1 bs1 bm1 true sn1 sub1 ab1 col1 dd1 m01 m11 m21 m31 m51 "ValueError.__new__"))
    (xR1 : PySem.HandSPX.refsVE bm1 = true)
    (sa1 : PySem.W.findIn K (.ref C_Missing) "__setattr__" = some (some (.builtin "object.__setattr__")))
    (ga1 : PySem.W.findIn K (.ref C_Missing) "__getattribute__" = some (some (.builtin "BaseException.__getattribute__")))
    (gg1 : PySem.W.findIn K (.ref C_Missing) "__getattr__" = some none)
    (n1_title : PySem.W.findIn K (.ref C_Missing) "title" = some none)
    (eC1 : PySem.W.subIn K (.ref C_Missing) (.type "BaseException") = some true)
    (tC1 : PySem.W.typeIn K (.ref C_Missing) = some (.type "type"))
    (kC1 : PySem.W.keepIn K (.ref C_Missing) = true)
    (hC1 : PySem.W.hasDictIn K C_Missing = true)
    (cl1 : PySem.W.findIn K (.ref C_Missing) "__class__" = some (some (.builtin "object.__class__")))
    (mo1 : PySem.W.mroIn K C_Missing (.type "object") = some true)
    (q3_Missing_LinkError : PySem.W.subIn K (.ref C_Missing) (.ref C_LinkError) = some true)
    (q3_Missing_NotUsable : PySem.W.subIn K (.ref C_Missing) (.ref C_NotUsable) = some false)
    (q4_Missing_NotUsable : (Value.ref C_Missing == Value.ref C_NotUsable) = false)
    (q3_Missing_UnitError : PySem.W.subIn K (.ref C_Missing) (.ref C_UnitError) = some false)
    (q4_Missing_UnitError : (Value.ref C_Missing == Value.ref C_UnitError) = false)
    (q3_Missing_Missing : PySem.W.subIn K (.ref C_Missing) (.ref C_Missing) = some true)
    (q7_Missing_ValueError : PySem.W.subIn K (.ref C_Missing) (.type "ValueError") = some true)
    (q1_LinkError : PySem.W.typeIn K (.ref C_LinkError) = some (.type "type"))
    (q2_LinkError : PySem.W.hasDictIn K C_LinkError = true)
    (q5_LinkError : PySem.W.subIn K (.ref C_LinkError) (.type "BaseException") = some true)
    (q1_NotUsable : PySem.W.typeIn K (.ref C_NotUsable) = some (.type "type"))
    (q2_NotUsable : PySem.W.hasDictIn K C_NotUsable = true)
    (q5_NotUsable : PySem.W.subIn K (.ref C_NotUsable) (.type "BaseException") = some true)
    (q1_UnitError : PySem.W.typeIn K (.ref C_UnitError) = some (.type "type"))
    (q2_UnitError : PySem.W.hasDictIn K C_UnitError = true)
    (q1_Missing : PySem.W.typeIn K (.ref C_Missing) = some (.type "type"))
    (q2_Missing : PySem.W.hasDictIn K C_Missing = true)
    (sn' : PySem.W.specialIn K (.builtin "object.__class__") "__get__" = some (some (.builtin "getset_descriptor.__get__")))
    (tk : PySem.W.takesIn K (.builtin "object.__class__") = some true)
    (g_LETTERS : PySem.W.nsIn K mainGlobals "LETTERS" = some (some (.str "abcdefghijklmnopqrstuvwxyz" t_LETTERS)))
    (g_DIGITS : PySem.W.nsIn K mainGlobals "DIGITS" = some (some (.str "0123456789" t_DIGITS)))
    (g_LONGEST_TITLE : PySem.W.nsIn K mainGlobals "LONGEST_TITLE" = some (some (.int 12 t_LONGEST_TITLE)))
    (g_KEPT_WORDS : PySem.W.nsIn K mainGlobals "KEPT_WORDS" = some (some (.ref a_KEPT_WORDS)))
    (o_KEPT_WORDS : K.lookup a_KEPT_WORDS = some ⟨.type "tuple", dd_KEPT_WORDS, .seq its_KEPT_WORDS n_KEPT_WORDS, sl_KEPT_WORDS⟩)
    (v_KEPT_WORDS : Vals ((["unit", "shape", "use", "function", "take", "gives", "end", "let", "set", "if", "else", "loop", "when", "case", "tell", "give", "number", "name", "call", "word", "add", "sub", "mul", "div", "rem", "less", "same"] : List Str).map V.str) its_KEPT_WORDS.toList)
    (z'KEPT_WORDS : its_KEPT_WORDS.size ≤ sizeLine)
    (eT : cd22 = .ref cT)
    (oT : K.lookup cT = some ⟨ecT, dcT, .fields vsT, slT⟩)
    (vT : vsT[11]? = some (.ref tT))
    (nT : K.lookup tT = none)
    (eU : cd23 = .ref cU)
    (oU : K.lookup cU = some ⟨ecU, dcU, .fields vsU, slU⟩)
    (vU : vsU[11]? = some (.ref tU))
    (nU : K.lookup tU = none)
    (nTU : tT ≠ tU)
    (z_isinstance : PySem.W.nsIn K mainGlobals "isinstance" = some none)
    (z_int : PySem.W.nsIn K mainGlobals "int" = some none)
    (z_bool : PySem.W.nsIn K mainGlobals "bool" = some none)
    (z_all : PySem.W.nsIn K mainGlobals "all" = some none)
    (z_str : PySem.W.nsIn K mainGlobals "str" = some none)
    (z_len : PySem.W.nsIn K mainGlobals "len" = some none)
    (z_tuple : PySem.W.nsIn K mainGlobals "tuple" = some none)
    (z_sorted : PySem.W.nsIn K mainGlobals "sorted" = some none)
    (z_list : PySem.W.nsIn K mainGlobals "list" = some none)
    (z_abs : PySem.W.nsIn K mainGlobals "abs" = some none)
    (z_repr : PySem.W.nsIn K mainGlobals "repr" = some none)
    (z_ValueError : PySem.W.nsIn K mainGlobals "ValueError" = some none)
    (z_range : PySem.W.nsIn K mainGlobals "range" = some none)
    : ∃ (fd : FuncData) (f1 c1 t1 f2 c2 t2 : Addr), mg "_law_are_missing" = some (.ref f1) ∧ TabAt K f1 c1 t1 ∧ mg "_law_are_refused" = some (.ref f2) ∧ TabAt K f2 c2 t2 ∧ t1 ≠ t2 ∧ (∀ (s : Shared) (v : Value), BindsTo s fd ⟨[v], []⟩ [("_law_script", v)]) ∧ ∀ base : Heap, K.In base → base.Ns mainGlobals mg → LamX.TabB base mg c1 t1 → LamX.TabB base mg c2 t2 → FnG l.prog w K mg base CX0 11 fa fd ["_law_script"] (spLaw t1 t2 K) := by
  have e := hfa.symm.trans (PySem.W.mg_of X G a24)
  cases e
  have F0 := fun_mk (st := s_NotUsable___init__) l0 c0 k0
  have b0 := F0.binds (ps := ["self", "word", "at"]) fun _ _ _ _ _ _ us hl => match us, hl with | [_, _, _], _ => rfl
  have F1 := fun_mk (st := s_Missing___init__) l1 c1 k1
  have b1 := F1.binds (ps := ["self", "title"]) fun _ _ _ _ _ _ us hl => match us, hl with | [_, _], _ => rfl
  have F2 := fun_mk (st := s_is_integer) l2 c2 k2
  have b2 := F2.binds (ps := ["thing"]) fun _ _ _ _ _ _ us hl => match us, hl with | [_], _ => rfl
  have F3 := fun_mk (st := s_is_number) l3 c3 k3
  have b3 := F3.binds (ps := ["thing"]) fun _ _ _ _ _ _ us hl => match us, hl with | [_], _ => rfl
  have F4 := fun_mk (st := s_is_title) l4 c4 k4
  have b4 := F4.binds (ps := ["thing"]) fun _ _ _ _ _ _ us hl => match us, hl with | [_], _ => rfl
  have F5 := fun_mk (st := s_is_sheet) l5 c5 k5
  have b5 := F5.binds (ps := ["thing"]) fun _ _ _ _ _ _ us hl => match us, hl with | [_], _ => rfl
  have F6 := fun_mk (st := s__is_call) l6 c6 k6
  have b6 := F6.binds (ps := ["thing"]) fun _ _ _ _ _ _ us hl => match us, hl with | [_], _ => rfl
  have F7 := fun_mk (st := s_is_sheets) l7 c7 k7
  have b7 := F7.binds (ps := ["thing"]) fun _ _ _ _ _ _ us hl => match us, hl with | [_], _ => rfl
  have F8 := fun_mk (st := s_reached_from) l8 c8 k8
  have b8 := F8.binds (ps := ["sheets", "name"]) fun _ _ _ _ _ _ us hl => match us, hl with | [_, _], _ => rfl
  have Ww_reached_from_name_sheets : KBinds K _ ["sheets", "name"] ["name", "sheets"] (fun us ws => match us, ws with | [], [b, a] => [a, b] | _, _ => []) (fun vs zs => match vs, zs with | [], [b, a] => [a, b] | _, _ => []) := fun_binds F8
    (fun _ _ _ _ _ _ us ws hl => match us, ws, hl with | [], [_, _], _ => rfl | [], [], h => nomatch h | [], [_], h => nomatch h | [], _ :: _ :: _ :: _, h => nomatch h | _ :: _, _, h => nomatch h)
    (fun r1 r2 => match r1, r2 with | .nil, .cons b (.cons a .nil) => .cons a (.cons b .nil) | .nil, .nil => .nil | .nil, .cons _ .nil => .nil | .nil, .cons _ (.cons _ (.cons _ _)) => .nil | .cons _ _, _ => .nil)
  have F9 := fun_mk (st := s_rings_of) l9 c9 k9
  have b9 := F9.binds (ps := ["sheets"]) fun _ _ _ _ _ _ us hl => match us, hl with | [_], _ => rfl
  have Ww_rings_of_sheets : KBinds K _ ["sheets"] ["sheets"] (fun us ws => match us, ws with | [], [a] => [a] | _, _ => []) (fun vs zs => match vs, zs with | [], [a] => [a] | _, _ => []) := fun_binds F9
    (fun _ _ _ _ _ _ us ws hl => match us, ws, hl with | [], [_], _ => rfl | [], [], h => nomatch h | [], _ :: _ :: _, h => nomatch h | _ :: _, _, h => nomatch h)
    (fun r1 r2 => match r1, r2 with | .nil, .cons a .nil => .cons a .nil | .nil, .nil => .nil | .nil, .cons _ (.cons _ _) => .nil | .cons _ _, _ => .nil)
  have F10 := fun_mk (st := s_is_ring_call) l10 c10 k10
  have b10 := F10.binds (ps := ["sheets", "caller", "called"]) fun _ _ _ _ _ _ us hl => match us, hl with | [_, _, _], _ => rfl
  have Ww_is_ring_call_called_caller_sheets : KBinds K _ ["sheets", "caller", "called"] ["called", "caller", "sheets"] (fun us ws => match us, ws with | [], [c, b, a] => [a, b, c] | _, _ => []) (fun vs zs => match vs, zs with | [], [c, b, a] => [a, b, c] | _, _ => []) := fun_binds F10
    (fun _ _ _ _ _ _ us ws hl => match us, ws, hl with | [], [_, _, _], _ => rfl | [], [], h => nomatch h | [], [_], h => nomatch h | [], [_, _], h => nomatch h | [], _ :: _ :: _ :: _ :: _, h => nomatch h | _ :: _, _, h => nomatch h)
    (fun r1 r2 => match r1, r2 with | .nil, .cons c (.cons b (.cons a .nil)) => .cons a (.cons b (.cons c .nil)) | .nil, .nil => .nil | .nil, .cons _ .nil => .nil | .nil, .cons _ (.cons _ .nil) => .nil | .nil, .cons _ (.cons _ (.cons _ (.cons _ _))) => .nil | .cons _ _, _ => .nil)
  have F11 := fun_mk (st := s_reached_tables) l11 c11 k11
  have b11 := F11.binds (ps := ["sheets"]) fun _ _ _ _ _ _ us hl => match us, hl with | [_], _ => rfl
  have F12 := fun_mk (st := s__reached) l12 c12 k12
  have b12 := F12.binds (ps := ["called", "title"]) fun _ _ _ _ _ _ us hl => match us, hl with | [_, _], _ => rfl
  have F13 := fun_mk (st := s__check_title) l13 c13 k13
  have b13 := F13.binds (ps := ["title", "titles"]) fun _ _ _ _ _ _ us hl => match us, hl with | [_, _], _ => rfl
  have F14 := fun_mk (st := s__law_feed) l14 c14 k14
  have b14 := F14.binds (ps := ["_law_script"]) fun _ _ _ _ _ _ us hl => match us, hl with | [_], _ => rfl
  have F15 := fun_mk (st := s__law_pick) l15 c15 k15
  have b15 := F15.binds (ps := ["_law_feed_here", "_law_wide"]) fun _ _ _ _ _ _ us hl => match us, hl with | [_, _], _ => rfl
  have F16 := fun_mk (st := s__law_same) l16 c16 k16
  have b16 := F16.binds (ps := ["_law_told", "_law_due"]) fun _ _ _ _ _ _ us hl => match us, hl with | [_, _], _ => rfl
  have F17 := fun_mk (st := s__law_said) l17 c17 k17
  have b17 := F17.binds (ps := ["_law_ask"]) fun _ _ _ _ _ _ us hl => match us, hl with | [_], _ => rfl
  have F18 := fun_mk (st := s__law_tome) l18 c18 k18
  have b18 := F18.binds (ps := ["_law_feed_here"]) fun _ _ _ _ _ _ us hl => match us, hl with | [_], _ => rfl
  have F19 := fun_mk (st := s__law_ways) l19 c19 k19
  have b19 := F19.binds (ps := ["_law_rows", "_law_titles"]) fun _ _ _ _ _ _ us hl => match us, hl with | [_, _], _ => rfl
  have F20 := fun_mk (st := s__law_rings) l20 c20 k20
  have b20 := F20.binds (ps := ["_law_titles", "_law_ways_here"]) fun _ _ _ _ _ _ us hl => match us, hl with | [_, _], _ => rfl
  have F21 := fun_mk (st := s__law_are_reached) l21 c21 k21
  have b21 := F21.binds (ps := ["_law_feed_here", "_law_rows", "_law_titles", "_law_ways_here"]) fun _ _ _ _ _ _ us hl => match us, hl with | [_, _, _, _], _ => rfl
  have F22 := fun_mk (st := s__law_are_missing) l22 c22 k22
  have b22 := F22.binds (ps := ["_law_feed_here", "_law_rows", "_law_titles", "_law_ghosts"]) fun _ _ _ _ _ _ us hl => match us, hl with | [_, _, _, _], _ => rfl
  have F23 := fun_mk (st := s__law_are_refused) l23 c23 k23
  have b23 := F23.binds (ps := ["_law_feed_here"]) fun _ _ _ _ _ _ us hl => match us, hl with | [_], _ => rfl
  have F24 := fun_mk (st := s_law) l24 c24 k24
  have b24 := F24.binds (ps := ["_law_script"]) fun _ _ _ _ _ _ us hl => match us, hl with | [_], _ => rfl
  let T : Txt K mg := {
    C_NeedError := C_NeedError, mC_NeedError := PySem.W.mg_of X G aC_NeedError,
    C_UnitError := C_UnitError, mC_UnitError := PySem.W.mg_of X G aC_UnitError,
    C_LinkError := C_LinkError, mC_LinkError := PySem.W.mg_of X G aC_LinkError,
    C_NotUsable := C_NotUsable, mC_NotUsable := PySem.W.mg_of X G aC_NotUsable,
    C_Missing := C_Missing, mC_Missing := PySem.W.mg_of X G aC_Missing,
    x_NotUsable := ⟨⟨nm0, q0, N0, bs0, bm0, sn0, sub0, ab0, col0, dd0, m00, m10, m20, m30, m50, xL0, xR0⟩, sa0, eC0, tC0, kC0⟩, xk_NotUsable := ⟨cls_some hC0, ga0, gg0, eC0, cl0, sn', tk, mo0⟩, xf_NotUsable := ⟨ga0, gg0, eC0, hC0⟩, i_NotUsable := a0, t_NotUsable := t0,
    n_NotUsable_word := n0_word,
    n_NotUsable_at := n0_at,
    ex_NotUsable_LinkError := PySem.W.exm_ref q5_LinkError q2_LinkError q1_LinkError q3_NotUsable_LinkError,
    ex_NotUsable_NotUsable := PySem.W.exm_ref q5_NotUsable q2_NotUsable q1_NotUsable q3_NotUsable_NotUsable,
    is_NotUsable_UnitError := kit_own (cls_some q2_UnitError) q1_UnitError q3_NotUsable_UnitError (fun z => nomatch z),
    is_NotUsable_Missing := kit_own (cls_some q2_Missing) q1_Missing q3_NotUsable_Missing (fun _ => q4_NotUsable_Missing),
    is_NotUsable_ValueError := kit_blt rfl q7_NotUsable_ValueError,
    x_Missing := ⟨⟨nm1, q1, N1, bs1, bm1, sn1, sub1, ab1, col1, dd1, m01, m11, m21, m31, m51, xL1, xR1⟩, sa1, eC1, tC1, kC1⟩, xk_Missing := ⟨cls_some hC1, ga1, gg1, eC1, cl1, sn', tk, mo1⟩, xf_Missing := ⟨ga1, gg1, eC1, hC1⟩, i_Missing := a1, t_Missing := t1,
    n_Missing_title := n1_title,
    ex_Missing_LinkError := PySem.W.exm_ref q5_LinkError q2_LinkError q1_LinkError q3_Missing_LinkError,
    ex_Missing_NotUsable := PySem.W.exm_ref q5_NotUsable q2_NotUsable q1_NotUsable q3_Missing_NotUsable,
    is_Missing_UnitError := kit_own (cls_some q2_UnitError) q1_UnitError q3_Missing_UnitError (fun _ => q4_Missing_UnitError),
    is_Missing_Missing := kit_self,
    is_Missing_ValueError := kit_blt rfl q7_Missing_ValueError,
    f_NotUsable__init__ := _, d_NotUsable__init__ := _, F_NotUsable__init__ := F0, b_NotUsable__init__ := b0,
    f_Missing__init__ := _, d_Missing__init__ := _, F_Missing__init__ := F1, b_Missing__init__ := b1,
    f_is_integer := _, d_is_integer := _, F_is_integer := F2, b_is_integer := b2, m_is_integer := PySem.W.mg_of X G a2, k_is_integer := k2,
    f_is_number := _, d_is_number := _, F_is_number := F3, b_is_number := b3, m_is_number := PySem.W.mg_of X G a3, k_is_number := k3,
    f_is_title := _, d_is_title := _, F_is_title := F4, b_is_title := b4, m_is_title := PySem.W.mg_of X G a4, k_is_title := k4,
    f_is_sheet := _, d_is_sheet := _, F_is_sheet := F5, b_is_sheet := b5, m_is_sheet := PySem.W.mg_of X G a5, k_is_sheet := k5,
    f__is_call := _, d__is_call := _, F__is_call := F6, b__is_call := b6, m__is_call := PySem.W.mg_of X G a6, k__is_call := k6,
    f_is_sheets := _, d_is_sheets := _, F_is_sheets := F7, b_is_sheets := b7, m_is_sheets := PySem.W.mg_of X G a7, k_is_sheets := k7,
    f_reached_from := _, d_reached_from := _, F_reached_from := F8, b_reached_from := b8, m_reached_from := PySem.W.mg_of X G a8, k_reached_from := k8, w_reached_from_name_sheets := Ww_reached_from_name_sheets,
    f_rings_of := _, d_rings_of := _, F_rings_of := F9, b_rings_of := b9, m_rings_of := PySem.W.mg_of X G a9, k_rings_of := k9, w_rings_of_sheets := Ww_rings_of_sheets,
    f_is_ring_call := _, d_is_ring_call := _, F_is_ring_call := F10, b_is_ring_call := b10, m_is_ring_call := PySem.W.mg_of X G a10, k_is_ring_call := k10, w_is_ring_call_called_caller_sheets := Ww_is_ring_call_called_caller_sheets,
    f_reached_tables := _, d_reached_tables := _, F_reached_tables := F11, b_reached_tables := b11, m_reached_tables := PySem.W.mg_of X G a11, k_reached_tables := k11,
    f__reached := _, d__reached := _, F__reached := F12, b__reached := b12, m__reached := PySem.W.mg_of X G a12, k__reached := k12,
    f__check_title := _, d__check_title := _, F__check_title := F13, b__check_title := b13, m__check_title := PySem.W.mg_of X G a13, k__check_title := k13,
    f__law_feed := _, d__law_feed := _, F__law_feed := F14, b__law_feed := b14, m__law_feed := PySem.W.mg_of X G a14, k__law_feed := k14,
    f__law_pick := _, d__law_pick := _, F__law_pick := F15, b__law_pick := b15, m__law_pick := PySem.W.mg_of X G a15, k__law_pick := k15,
    f__law_same := _, d__law_same := _, F__law_same := F16, b__law_same := b16, m__law_same := PySem.W.mg_of X G a16, k__law_same := k16,
    f__law_said := _, d__law_said := _, F__law_said := F17, b__law_said := b17, m__law_said := PySem.W.mg_of X G a17, k__law_said := k17,
    f__law_tome := _, d__law_tome := _, F__law_tome := F18, b__law_tome := b18, m__law_tome := PySem.W.mg_of X G a18, k__law_tome := k18,
    f__law_ways := _, d__law_ways := _, F__law_ways := F19, b__law_ways := b19, m__law_ways := PySem.W.mg_of X G a19, k__law_ways := k19,
    f__law_rings := _, d__law_rings := _, F__law_rings := F20, b__law_rings := b20, m__law_rings := PySem.W.mg_of X G a20, k__law_rings := k20,
    f__law_are_reached := _, d__law_are_reached := _, F__law_are_reached := F21, b__law_are_reached := b21, m__law_are_reached := PySem.W.mg_of X G a21, k__law_are_reached := k21,
    f__law_are_missing := _, d__law_are_missing := _, F__law_are_missing := F22, b__law_are_missing := b22, m__law_are_missing := PySem.W.mg_of X G a22, k__law_are_missing := k22,
    f__law_are_refused := _, d__law_are_refused := _, F__law_are_refused := F23, b__law_are_refused := b23, m__law_are_refused := PySem.W.mg_of X G a23, k__law_are_refused := k23,
    f_law := _, d_law := _, F_law := F24, b_law := b24, m_law := PySem.W.mg_of X G a24, k_law := k24,
    t_LETTERS := t_LETTERS, c_LETTERS := PySem.W.mg_of X G g_LETTERS,
    t_DIGITS := t_DIGITS, c_DIGITS := PySem.W.mg_of X G g_DIGITS,
    t_LONGEST_TITLE := t_LONGEST_TITLE, c_LONGEST_TITLE := PySem.W.mg_of X G g_LONGEST_TITLE,
    a_KEPT_WORDS := a_KEPT_WORDS, c_KEPT_WORDS := PySem.W.mg_of X G g_KEPT_WORDS, s_KEPT_WORDS := fun _ => .inr ⟨_, its_KEPT_WORDS, n_KEPT_WORDS, o_KEPT_WORDS, rfl, rfl, z'KEPT_WORDS, v_KEPT_WORDS⟩,
    z_isinstance := PySem.W.mg_none_of X G z_isinstance, z_int := PySem.W.mg_none_of X G z_int, z_bool := PySem.W.mg_none_of X G z_bool, z_all := PySem.W.mg_none_of X G z_all, z_str := PySem.W.mg_none_of X G z_str, z_len := PySem.W.mg_none_of X G z_len, z_tuple := PySem.W.mg_none_of X G z_tuple, z_sorted := PySem.W.mg_none_of X G z_sorted, z_list := PySem.W.mg_none_of X G z_list, z_abs := PySem.W.mg_none_of X G z_abs, z_repr := PySem.W.mg_none_of X G z_repr, z_ValueError := PySem.W.mg_none_of X G z_ValueError, z_range := PySem.W.mg_none_of X G z_range }
  have tab : TabAt K f__law_are_missing cT tT := ⟨⟨_, _, l22, rfl, eT⟩, ⟨_, _, _, _, oT, vT⟩, nT⟩
  have tab2 : TabAt K f__law_are_refused cU tU := ⟨⟨_, _, l23, rfl, eU⟩, ⟨_, _, _, _, oU, vU⟩, nU⟩
  exact ⟨_, f__law_are_missing, cT, tT, f__law_are_refused, cU, tU, T.m__law_are_missing, tab, T.m__law_are_refused, tab2, nTU, fun s v => .of_eq rfl, fun base _ _ TB TB2 => ok_law T tab TB tab2 TB2 nTU⟩
theorem walk {l : PySem.W.OpenLaw} {q : Program} {loose : List Str} {XP : (Str → Option Value) → Heap → Prop} {YP : World → Heap → Prop} {d : DefRec} {K : Params → PySem.W.Frag} (hn : l.most = some 63) (hdf : d.params.defaults = []) (hrec : ((recsOf q).any fun e => e.name == ("_law_are_missing" : Str)) = true) (hrec2 : ((recsOf q).any fun e => e.name == ("_law_are_refused" : Str)) = true)
    (hY : ∀ (w : World) (h : Heap), YP w h → (K w.params).In h)
    (F : ∀ (w : World) (mg : Str → Option Value) (fa : Addr) (h : Heap), (K w.params).In h → h.Ns mainGlobals mg → mg d.name = some (.ref fa) →
      ∃ (fd : FuncData) (f1 c1 t1 f2 c2 t2 : Addr), mg "_law_are_missing" = some (.ref f1) ∧ TabAt (K w.params) f1 c1 t1 ∧ mg "_law_are_refused" = some (.ref f2) ∧ TabAt (K w.params) f2 c2 t2 ∧ t1 ≠ t2 ∧ (∀ (s : Shared) (v : Value), BindsTo s fd ⟨[v], []⟩ [("_law_script", v)]) ∧ ∀ base : Heap, (K w.params).In base → base.Ns mainGlobals mg → LamX.TabB base mg c1 t1 → LamX.TabB base mg c2 t2 → FnG l.prog w (K w.params) mg base CX0 11 fa fd ["_law_script"] (spLaw t1 t2 (K w.params))) :
    PySem.W.WalkO q loose XP YP l.row.toRowW d [] (fun f vs => PySem.call f vs) :=
  walk_goM (n := 63) (k := 11) (x := "_law_script") (y1 := "_law_are_missing") (y2 := "_law_are_refused") (CX := CX0) (sp := spLaw) hn (by decide) hdf ⟨rfl, by decide, by decide⟩ hrec hrec2 hY F (fun _ _ _ _ a ns hl h1 h2 hS => ⟨a, ns, rfl, hS, hl, h1, h2, fun _ => rfl⟩) fun _ _ _ _ z => z
end Lk
open PySem PySem.W PyProof.Rows
set_option maxRecDepth 100000 in
set_option maxHeartbeats 0 in
theorem PySem.Challenge.cw_linkneed_k31_whole_reach_and_rings_holds : PySem.Challenge.rw_linkneed_k31_whole_reach_and_rings.Holds := by
  w_on; o_law; k_head; (case hw => w_witness2)
  k_fill
  refine Lk.walk (l := PySem.Challenge.rw_linkneed_k31_whole_reach_and_rings) rfl rfl (by decide +kernel) (by decide +kernel) (fun w h Y => PySem.W.km_in_of Y) ?F
  case F =>
    intro w mg fa h KX G hmg
    refine' Lk.all_mk KX G hmg ?aC_NeedError ?aC_UnitError ?aC_LinkError ?aC_NotUsable ?aC_Missing ?a0 ?t0 ?l0 ?c0 ?k0 ?a1 ?t1 ?l1 ?c1 ?k1 ?a2 ?l2 ?c2 ?k2 ?a3 ?l3 ?c3 ?k3 ?a4 ?l4 ?c4 ?k4 ?a5 ?l5 ?c5 ?k5 ?a6 ?l6 ?c6 ?k6 ?a7 ?l7 ?c7 ?k7 ?a8 ?l8 ?c8 ?k8 ?a9 ?l9 ?c9 ?k9 ?a10 ?l10 ?c10 ?k10 ?a11 ?l11 ?c11 ?k11 ?a12 ?l12 ?c12 ?k12 ?a13 ?l13 ?c13 ?k13 ?a14 ?l14 ?c14 ?k14 ?a15 ?l15 ?c15 ?k15 ?a16 ?l16 ?c16 ?k16 ?a17 ?l17 ?c17 ?k17 ?a18 ?l18 ?c18 ?k18 ?a19 ?l19 ?c19 ?k19 ?a20 ?l20 ?c20 ?k20 ?a21 ?l21 ?c21 ?k21 ?a22 ?l22 ?c22 ?k22 ?a23 ?l23 ?c23 ?k23 ?a24 ?l24 ?c24 ?k24 ?xL0 ?xR0 ?sa0 ?ga0 ?gg0 ?n0_word ?n0_at ?eC0 ?tC0 ?kC0 ?hC0 ?cl0 ?mo0 ?q3_NotUsable_LinkError ?q4_NotUsable_LinkError ?q3_NotUsable_NotUsable ?q3_NotUsable_UnitError ?q3_NotUsable_Missing ?q4_NotUsable_Missing ?q7_NotUsable_ValueError ?xL1 ?xR1 ?sa1 ?ga1 ?gg1 ?n1_title ?eC1 ?tC1 ?kC1 ?hC1 ?cl1 ?mo1 ?q3_Missing_LinkError ?q3_Missing_NotUsable ?q4_Missing_NotUsable ?q3_Missing_UnitError ?q4_Missing_UnitError ?q3_Missing_Missing ?q7_Missing_ValueError ?q1_LinkError ?q2_LinkError ?q5_LinkError ?q1_NotUsable ?q2_NotUsable ?q5_NotUsable ?q1_UnitError ?q2_UnitError ?q1_Missing ?q2_Missing ?sn' ?tk ?g_LETTERS ?g_DIGITS ?g_LONGEST_TITLE ?g_KEPT_WORDS ?o_KEPT_WORDS ?v_KEPT_WORDS ?z'KEPT_WORDS ?eT ?oT ?vT ?nT ?eU ?oU ?vU ?nU ?nTU ?z_isinstance ?z_int ?z_bool ?z_all ?z_str ?z_len ?z_tuple ?z_sorted ?z_list ?z_abs ?z_repr ?z_ValueError ?z_range
    (case aC_NeedError => k_is)
    (case aC_UnitError => k_is)
    (case aC_LinkError => k_is)
    (case aC_NotUsable => k_is)
    (case aC_Missing => k_is)
    (case a0 => k_is)
    (case t0 => k_is)
    (case l0 => k_is)
    (case c0 => k_is)
    (case k0 => k_is)
    (case a1 => k_is)
    (case t1 => k_is)
    (case l1 => k_is)
    (case c1 => k_is)
    (case k1 => k_is)
    (case a2 => k_is)
    (case l2 => k_is)
    (case c2 => k_is)
    (case k2 => k_is)
    (case a3 => k_is)
    (case l3 => k_is)
    (case c3 => k_is)
    (case k3 => k_is)
    (case a4 => k_is)
    (case l4 => k_is)
    (case c4 => k_is)
    (case k4 => k_is)
    (case a5 => k_is)
    (case l5 => k_is)
    (case c5 => k_is)
    (case k5 => k_is)
    (case a6 => k_is)
    (case l6 => k_is)
    (case c6 => k_is)
    (case k6 => k_is)
    (case a7 => k_is)
    (case l7 => k_is)
    (case c7 => k_is)
    (case k7 => k_is)
    (case a8 => k_is)
    (case l8 => k_is)
    (case c8 => k_is)
    (case k8 => k_is)
    (case a9 => k_is)
    (case l9 => k_is)
    (case c9 => k_is)
    (case k9 => k_is)
    (case a10 => k_is)
    (case l10 => k_is)
    (case c10 => k_is)
    (case k10 => k_is)
    (case a11 => k_is)
    (case l11 => k_is)
    (case c11 => k_is)
    (case k11 => k_is)
    (case a12 => k_is)
    (case l12 => k_is)
    (case c12 => k_is)
    (case k12 => k_is)
    (case a13 => k_is)
    (case l13 => k_is)
    (case c13 => k_is)
    (case k13 => k_is)
    (case a14 => k_is)
    (case l14 => k_is)
    (case c14 => k_is)
    (case k14 => k_is)
    (case a15 => k_is)
    (case l15 => k_is)
    (case c15 => k_is)
    (case k15 => k_is)
    (case a16 => k_is)
    (case l16 => k_is)
    (case c16 => k_is)
    (case k16 => k_is)
    (case a17 => k_is)
    (case l17 => k_is)
    (case c17 => k_is)
    (case k17 => k_is)
    (case a18 => k_is)
    (case l18 => k_is)
    (case c18 => k_is)
    (case k18 => k_is)
    (case a19 => k_is)
    (case l19 => k_is)
    (case c19 => k_is)
    (case k19 => k_is)
    (case a20 => k_is)
    (case l20 => k_is)
    (case c20 => k_is)
    (case k20 => k_is)
    (case a21 => k_is)
    (case l21 => k_is)
    (case c21 => k_is)
    (case k21 => k_is)
    (case a22 => k_is)
    (case l22 => k_is)
    (case c22 => k_is)
    (case k22 => k_is)
    (case a23 => k_is)
    (case l23 => k_is)
    (case c23 => k_is)
    (case k23 => k_is)
    (case a24 => k_is)
    (case l24 => k_is)
    (case c24 => k_is)
    (case k24 => k_is)
    (case xL0 => k_is)
    (case xR0 => decide +kernel)
    (case sa0 => k_is)
    (case ga0 => k_is)
    (case gg0 => k_is)
    (case n0_word => k_is)
    (case n0_at => k_is)
    (case eC0 => k_is)
    (case tC0 => k_is)
    (case kC0 => k_is)
    (case hC0 => k_is)
    (case cl0 => k_is)
    (case mo0 => k_is)
    (case q3_NotUsable_LinkError => k_is)
    (case q4_NotUsable_LinkError => decide +kernel)
    (case q3_NotUsable_NotUsable => k_is)
    (case q3_NotUsable_UnitError => k_is)
    (case q3_NotUsable_Missing => k_is)
    (case q4_NotUsable_Missing => decide +kernel)
    (case q7_NotUsable_ValueError => k_is)
    (case xL1 => k_is)
    (case xR1 => decide +kernel)
    (case sa1 => k_is)
    (case ga1 => k_is)
    (case gg1 => k_is)
    (case n1_title => k_is)
    (case eC1 => k_is)
    (case tC1 => k_is)
    (case kC1 => k_is)
    (case hC1 => k_is)
    (case cl1 => k_is)
    (case mo1 => k_is)
    (case q3_Missing_LinkError => k_is)
    (case q3_Missing_NotUsable => k_is)
    (case q4_Missing_NotUsable => decide +kernel)
    (case q3_Missing_UnitError => k_is)
    (case q4_Missing_UnitError => decide +kernel)
    (case q3_Missing_Missing => k_is)
    (case q7_Missing_ValueError => k_is)
    (case q1_LinkError => k_is)
    (case q2_LinkError => k_is)
    (case q5_LinkError => k_is)
    (case q1_NotUsable => k_is)
    (case q2_NotUsable => k_is)
    (case q5_NotUsable => k_is)
    (case q1_UnitError => k_is)
    (case q2_UnitError => k_is)
    (case q1_Missing => k_is)
    (case q2_Missing => k_is)
    (case sn' => rfl)
    (case tk => k_is)
    (case g_LETTERS => k_is)
    (case g_DIGITS => k_is)
    (case g_LONGEST_TITLE => k_is)
    (case g_KEPT_WORDS => k_is)
    (case o_KEPT_WORDS => k_is)
    (case v_KEPT_WORDS => exact (.cons ⟨_, rfl⟩ (.cons ⟨_, rfl⟩ (.cons ⟨_, rfl⟩ (.cons ⟨_, rfl⟩ (.cons ⟨_, rfl⟩ (.cons ⟨_, rfl⟩ (.cons ⟨_, rfl⟩ (.cons ⟨_, rfl⟩ (.cons ⟨_, rfl⟩ (.cons ⟨_, rfl⟩ (.cons ⟨_, rfl⟩ (.cons ⟨_, rfl⟩ (.cons ⟨_, rfl⟩ (.cons ⟨_, rfl⟩ (.cons ⟨_, rfl⟩ (.cons ⟨_, rfl⟩ (.cons ⟨_, rfl⟩ (.cons ⟨_, rfl⟩ (.cons ⟨_, rfl⟩ (.cons ⟨_, rfl⟩ (.cons ⟨_, rfl⟩ (.cons ⟨_, rfl⟩ (.cons ⟨_, rfl⟩ (.cons ⟨_, rfl⟩ (.cons ⟨_, rfl⟩ (.cons ⟨_, rfl⟩ (.cons ⟨_, rfl⟩ .nil))))))))))))))))))))))))))))
    (case z'KEPT_WORDS => decide)
    (case eT => rfl)
    (case oT => k_is)
    (case vT => rfl)
    (case nT => first | kernel_rfl | rfl)
    (case eU => rfl)
    (case oU => k_is)
    (case vU => rfl)
    (case nU => first | kernel_rfl | rfl)
    (case nTU => first | decide | exact Nat.ne_of_beq_eq_false (by rfl) | exact Nat.ne_of_beq_eq_false (by kernel_rfl) | omega)
    (case z_isinstance => k_is)
    (case z_int => k_is)
    (case z_bool => k_is)
    (case z_all => k_is)
    (case z_str => k_is)
    (case z_len => k_is)
    (case z_tuple => k_is)
    (case z_sorted => k_is)
    (case z_list => k_is)
    (case z_abs => k_is)
    (case z_repr => k_is)
    (case z_ValueError => k_is)
    (case z_range => k_is)

