import PyProof.Rows.All
import Wide.All
import OpenK.AllK
import Wide.FinOn
import HandS.ForMost
import HandS.ForExc
import HandS.IsInst
import HandS.Deep
import HandS.ExcInit
import HandS.ExcField
import HandS.ExcOwn
import KE.KExcIs
import HandS.ExcIs
import HandS.Lambda
import HandS.TupAny
import HandS.TupMul
import HandS.Walk
import HandS.Zip
import HandS.Style
import HandS.Iter
import HandS.Conv
import HandS.DictComp
import HandS.TupSets
import HandS.SortRule
import KE.DataFind
import KE.KDictList
import KE.GoesMore
import KE.GoesEnum
import KE.KIndexOf
import HandS.WordsExc
import HandS.ExcCtx
import HandS.HotCalls
import KE.KRevSl
import HandS.Defaults
import HandS.WideBits
import HandS.Small
import HandS.FStrTup
import PySem.Challenge.RW_linkneed_k40_whole_words_and_rows
set_option Elab.async false
set_option linter.all false
set_option maxRecDepth 100000
set_option maxHeartbeats 2000000
namespace Lk
open PySem PySem.Spec PyProof.Rows L2
/-! ### heaps and data -/
theorem same_new {H : Hp} {p : Addr} (h : H p = none) (o : HO) : Same H (upd H p o) := fun b u q => by rw [upd_ne (ne_of_none q h)]; exact q
theorem same_del {H H' : Hp} (l : Addr) (e : Same H H') : Same (del H l) (del H' l) := fun b o q => by
  by_cases hb : b = l
  · subst hb; rw [del_same] at q; cases q
  · rw [del_ne hb] at q ⊢; exact e b o q
theorem del_le (H : Hp) (l : Addr) : Same (del H l) H := fun b o q => by
  by_cases hb : b = l
  · subst hb; rw [del_same] at q; cases q
  · rw [del_ne hb] at q; exact q
theorem del_upd (H : Hp) (l : Addr) (o : HO) : del (upd H l o) l = del H l := by
  funext b
  by_cases hb : b = l
  · subst hb; rw [del_same, del_same]
  · rw [del_ne hb, del_ne hb, upd_ne hb]
theorem same_eq {H H' : Hp} (e : H = H') : Same H H' := by subst e; exact Same.refl _
/-- what was tracked and is not at l -/
theorem Same.off {H H' : Hp} {l b : Addr} {o : HO} (e : Same (del H l) (del H' l)) (hb : b ≠ l) (h : H b = some o) : H' b = some o := by
  have q := e b o (by rw [del_ne hb]; exact h)
  rw [del_ne hb] at q
  exact q
theorem seqT_same {K : PySem.W.Frag} {H H' : Hp} {a : Addr} {xs : List V} (e : Same H H') (h : SqT K H a xs) : SqT K H' a xs := by
  rcases h with (h | ⟨o, h⟩) | h
  · exact .inl (.inl (e _ _ h))
  · exact .inl (.inr ⟨o, e _ _ h⟩)
  · exact .inr h
mutual
theorem dp_same {K : PySem.W.Frag} {H H' : Hp} (e : Same H H') : ∀ {v : V} {d : PyData}, Dp K H v d → Dp K H' v d
  | _, _, .non => .non
  | _, _, .bl b => .bl b
  | _, _, .int i => .int i
  | _, _, .str x => .str x
  | _, _, .lst h a => .lst (e.seq h) (dpAll_same e a)
  | _, _, .tup h a => .tup (seqT_same e h) (dpAll_same e a)
theorem dpAll_same {K : PySem.W.Frag} {H H' : Hp} (e : Same H H') : ∀ {vs : List V} {ds : List PyData}, DpAll K H vs ds → DpAll K H' vs ds
  | _, _, .nil => .nil
  | _, _, .cons a b => .cons (dp_same e a) (dpAll_same e b)
end
theorem same_mut {H H' : Hp} {p : Addr} {o : HO} (e : Same H H') (h : H p = none) : Same H (upd H' p o) := fun b u q => by
  rw [upd_ne (ne_of_none q h)]
  exact e b u q
theorem ifT {b : Bool} {A B : Prop} (e : b = true) (h : A) : if b = true then A else B := by subst e; exact iteT h
theorem ifF {b : Bool} {A B : Prop} (e : b = false) (h : B) : if b = true then A else B := by subst e; exact iteF h
theorem ite_both {c : Bool} {A B : Prop} (hB : B) (h : B → c = true → A) : if c = true then A else B := by
  cases c with
  | true => exact iteT (h hB rfl)
  | false => exact iteF hB
theorem dpAll_str {K : PySem.W.Frag} {H : Hp} : ∀ l : List Str, DpAll K H (l.map V.str) (l.map PyData.str)
  | [] => .nil
  | x :: r => .cons (.str x) (dpAll_str r)
def iV (ns : List Int) : List V := ns.map V.int
theorem iV_len (ns : List Int) : (iV ns).length = ns.length := List.length_map _
theorem iV_app (ns : List Int) (i : Int) : iV ns ++ [V.int i] = iV (ns ++ [i]) := by unfold iV; rw [List.map_append]; rfl
theorem iV_get {ns : List Int} {j : Nat} {y : V} (h : (iV ns)[j]? = some y) : ∃ i, ns[j]? = some i ∧ y = .int i := by
  unfold iV at h
  rw [List.getElem?_map] at h
  cases e : ns[j]? with
  | none => rw [e] at h; cases h
  | some i => rw [e] at h; exact ⟨i, rfl, (Option.some.inj h).symm⟩
theorem szl {n : Nat} (h : n ≤ 1000000) : n < sizeLine := Nat.lt_of_le_of_lt h (by decide)
/-! ### kinds of data -/
def tyN : PyData → String
  | .none => "NoneType"
  | .bool _ => "bool"
  | .int _ => "int"
  | .str _ => "str"
  | .list _ => "list"
  | .tuple _ => "tuple"
  | .dict _ => "dict"
def isI : PyData → Bool
  | .int _ => true
  | _ => false
def isB : PyData → Bool
  | .bool _ => true
  | _ => false
def isN : PyData → Bool
  | .int i => decide (0 ≤ i)
  | _ => false
def isW : PyData → Bool
  | .int i => decide (0 ≤ i) && decide (i < 65536)
  | _ => false
theorem ty_of {K : PySem.W.Frag} {H : Hp} {v : V} {d : PyData} (h : Dp K H v d) : TyX K H v (.type (tyN d)) := by
  cases h with
  | non => exact .base .non
  | bl b => exact .base (.bl b)
  | int i => exact .base (.int i)
  | str x => exact .base (.str x)
  | lst h a =>
    rcases h with (h | ⟨o, h⟩) | ⟨o, its, n, h, hc, _⟩
    · exact .base (.lst h)
    · exact .base (.frz h)
    · exact .kList h hc
  | tup h a =>
    rcases h with (h | ⟨o, h⟩) | ⟨o, its, n, h, hc, _⟩
    · exact .base (.tup h)
    · exact .fTuple h
    · exact .kTuple h hc
theorem no_dict {K : PySem.W.Frag} {H : Hp} {v : V} {kvs : List (PyData × PyData)} (h : Dp K H v (.dict kvs)) : False := by cases h
theorem kit_int {K : PySem.W.Frag} {H : Hp} {v : V} {d : PyData} (h : Dp K H v d) : PySem.W.kitOne K (.type (tyN d)) (.type "int") = some (isI d || isB d) := by
  cases h with
  | non => exact kit_ty (a := "NoneType") (b := "int") (r := false) (by decide +kernel)
  | bl b => exact kit_ty (a := "bool") (b := "int") (r := true) (by decide +kernel)
  | int i => exact kit_ty (a := "int") (b := "int") (r := true) (by decide +kernel)
  | str x => exact kit_ty (a := "str") (b := "int") (r := false) (by decide +kernel)
  | lst h a => exact kit_ty (a := "list") (b := "int") (r := false) (by decide +kernel)
  | tup h a => exact kit_ty (a := "tuple") (b := "int") (r := false) (by decide +kernel)
theorem kit_bool {K : PySem.W.Frag} {H : Hp} {v : V} {d : PyData} (h : Dp K H v d) : PySem.W.kitOne K (.type (tyN d)) (.type "bool") = some (isB d) := by
  cases h with
  | non => exact kit_ty (a := "NoneType") (b := "bool") (r := false) (by decide +kernel)
  | bl b => exact kit_ty (a := "bool") (b := "bool") (r := true) (by decide +kernel)
  | int i => exact kit_ty (a := "int") (b := "bool") (r := false) (by decide +kernel)
  | str x => exact kit_ty (a := "str") (b := "bool") (r := false) (by decide +kernel)
  | lst h a => exact kit_ty (a := "list") (b := "bool") (r := false) (by decide +kernel)
  | tup h a => exact kit_ty (a := "tuple") (b := "bool") (r := false) (by decide +kernel)
theorem isI_int {K : PySem.W.Frag} {H : Hp} {v : V} {d : PyData} (h : Dp K H v d) (e : isI d = true) : ∃ i, v = .int i ∧ d = .int i := by
  cases h <;> first | exact ⟨_, rfl, rfl⟩ | cases e
theorem dp_get {K : PySem.W.Frag} {H : Hp} : ∀ {vs : List V} {ds : List PyData} {i : Nat} {v : V}, DpAll K H vs ds → vs[i]? = some v → ∃ d, d ∈ ds ∧ ds[i]? = some d ∧ Dp K H v d
  | _, _, _, _, .nil, e => by simp at e
  | _, _, 0, _, .cons a b, e => by
    simp at e
    subst e
    exact ⟨_, List.mem_cons_self .., rfl, a⟩
  | _, _, i + 1, _, .cons a b, e => by
    obtain ⟨d, h1, h2, h3⟩ := dp_get b (i := i) (by simpa using e)
    exact ⟨d, List.mem_cons_of_mem _ h1, by simpa using h2, h3⟩
theorem dp_len {K : PySem.W.Frag} {H : Hp} : ∀ {vs : List V} {ds : List PyData}, DpAll K H vs ds → vs.length = ds.length
  | _, _, .nil => rfl
  | _, _, .cons a b => by simp [dp_len b]
theorem dp_at {K : PySem.W.Frag} {H : Hp} {vs : List V} {ds : List PyData} {r : Int} (h : DpAll K H vs ds) (h0 : 0 ≤ r) (h1 : r < (ds.length : Int)) : ∃ v d, atI vs r = some v ∧ d ∈ ds ∧ ds[r.toNat]? = some d ∧ Dp K H v d := by
  obtain ⟨n, rfl⟩ : ∃ n : Nat, r = (n : Int) := ⟨r.toNat, by omega⟩
  have hl := dp_len h
  have hn : n < vs.length := by omega
  obtain ⟨d, m, e, q⟩ := dp_get h (List.getElem?_eq_getElem hn)
  exact ⟨vs[n], d, atI_nat (List.getElem?_eq_getElem hn), m, by simpa using e, q⟩
theorem PS.as {X : Cx} {st : Stmt} {t : TS} (t' : TS) (h : L2.PS X st t) (e : t = t' := by rfl) : L2.PS X st t' := e ▸ h
theorem passAt0 {X : Cx} : ∀ σ, PassesAt CX0 X σ ((fun _ => E0) σ) := fun _ _ _ _ _ _ _ h => h.elim
/-! ### in and not in of tuples, items of any depth -/
section
variable {X : Cx}
def rInU (K : PySem.W.Frag) (neg : Bool) : R2 := fun x y H Q => ∃ d ds, Dp K H x d ∧ Dp K H y (.tuple ds) ∧ SeqAt.shaped d = true ∧ SeqAt.shaped (.tuple ds) = true ∧ Q (.bl (if neg then !(ds.any fun z => PyData.eqv z d) else ds.any fun z => PyData.eqv z d)) H
theorem op_inU (hu : X.A.units + 65 < cLine) : OpR X (compareOp .In) (rInU X.K false) := by
  rintro ps₁ s₁ τ G a b va vb R J ra rb ⟨da, db, ha, hb, sa, sb, q⟩
  have ⟨_, w1⟩ := Dp.reads J da a va ha ra
  have ⟨_, w2⟩ := Dp.reads J (.tuple db) b vb hb rb
  exact SeqAt.in_tuple_reads w2 w1 (SeqAt.canLay_of_shaped sb) (SeqAt.canLay_of_shaped sa) (room_in_shaped sa hu) ⟨.bl _, G, J, rfl, q⟩
theorem op_notInU (hu : X.A.units + 65 < cLine) : OpR X (compareOp .NotIn) (rInU X.K true) := by
  rintro ps₁ s₁ τ G a b va vb R J ra rb ⟨da, db, ha, hb, sa, sb, q⟩
  have ⟨_, w1⟩ := Dp.reads J da a va ha ra
  have ⟨_, w2⟩ := Dp.reads J (.tuple db) b vb hb rb
  exact SeqAt.notIn_tuple_reads w2 w1 (SeqAt.canLay_of_shaped sb) (SeqAt.canLay_of_shaped sa) (room_in_shaped sa hu) ⟨.bl _, G, J, rfl, q⟩
/-! ### f(k = v, ..), keywords alone; it may raise, in a try -/
variable {CX : CXT} {k : Nat} {f : Addr} {fd : FuncData} {ps ks : List Str} {sp : Sp} {E : L2.St → XK} {x : Str} {p pos : Pos} {kws : List Keyword} {tk : TA}
  {g : List Value → List Value → List Value} {gV : List V → List V → List V}
def tCallKS (sp : Sp) (gV : List V → List V → List V) (E : L2.St → XK) (tk : TA) : TE := fun σ H Q => tk σ H fun zs H2 => sp (gV [] zs) H2 Q (E σ)
theorem run_fnkS {pins : List (Addr × Obj)} {σ : L2.St} {H : Hp} {s : Shared} {Q : VK} {us ws : List Value} {vs zs : List V} (F : FnOk X.prog X.w X.K X.mg X.base CX k f fd ps sp) (hr : Room k X.A) (hb : KBinds X.K fd ps ks g gV) (hx : PassesAt CX X σ (E σ))
    (I : Inv X pins σ H s) (r : Vals vs us) (rz : Vals zs ws) (h : sp (gV vs zs) H Q (E σ)) : wpAny (model X.prog X.w) X.A (call (.ref f) us (ks.zip ws)) (EP X pins σ Q) X.xe s := by
  have rr := hb.rel r rz
  have len : (g us ws).length = ps.length := rr.length ▸ F.len _ _ _ _ h
  refine wpAny_call (codeAny_mono (F.run X.A X.stack s H ⟨us, ks.zip ws⟩ (g us ws) (gV vs zs) Q (E σ) hr I.env0 (hb.to s us ws I.kIn len) rr h) fun o s₂ ho => ?_)
  match o, ho with
  | .error e, ho => exact hx pins H s e s₂ I ho
  | .ok (.ret _), ho => exact I.after ho
  | .ok .next, ho => exact ho.elim
  | .ok .brk, ho => exact ho.elim
  | .ok .cont, ho => exact ho.elim
theorem pe_callKS (F : FnOk X.prog X.w X.K X.mg X.base CX k f fd ps sp) (hr : Room k X.A) (hg : Gl X x) (hm : X.mg x = some (.ref f)) (hk : PySem.W.keepIn X.K (.ref f) = true) (hb : KBinds X.K fd ps ks g gV) (hx : ∀ σ, PassesAt CX X σ (E σ))
    (hkw : PK X kws tk) (hall : (backToKw pos (keywordEach kws X.env)).all (·.1.isSome) = true := by rfl) (hks : (backToKw pos (keywordEach kws X.env)).filterMap (·.1) = ks := by rfl)
    (hdb : (x == ("__debug__" : Str)) = false := by decide)
    (hpl : ((backTo pos (starEach [] X.env)).any (·.1) || (backToKw pos (keywordEach kws X.env)).any (·.1.isNone)) = false := by rfl) :
    PE X (.Call (.Name x p) [] kws pos) (tCallKS sp gV E tk) := by
  refine ⟨fun pins s σ H Q I h => ?_⟩
  refine wpAny_Call_Name_kw (ld_glob I hg hm ?_ hdb)
  refine PySem.W.callWith_KW0 (M := model X.prog X.w) (h₀ := X.base) I.ok.mod.kin hk hall ?_ hpl
  refine thn (hkw.run pos pins s σ H _ I h) fun ws s2 ⟨zs, H2, I2, rz, q2⟩ => ⟨I2.kIn, ?_⟩
  rw [hks]
  exact run_fnkS (us := []) (vs := []) F hr hb (hx σ) I2 .nil rz q2
/-! ### isinstance of the error that a suite holds, an own class's instance with fields -/
structure ExcK (K : PySem.W.Frag) (C : Addr) : Prop where
  hc : (PySem.W.clsIn K C).isSome = true
  hg : PySem.W.findIn K (.ref C) "__getattribute__" = some (some (.builtin "BaseException.__getattribute__"))
  hk : PySem.W.findIn K (.ref C) "__getattr__" = some none
  hs : PySem.W.subIn K (.ref C) (.type "BaseException") = some true
  ha : PySem.W.findIn K (.ref C) "__class__" = some (some (.builtin "object.__class__"))
  hn : PySem.W.specialIn K (.builtin "object.__class__") "__get__" = some (some (.builtin "getset_descriptor.__get__"))
  ht : PySem.W.takesIn K (.builtin "object.__class__") = some true
  hm : PySem.W.mroIn K C (.type "object") = some true
def rIsX (K : PySem.W.Frag) (a : Addr) (cls : Value) (d : Option Addr) : List V → Hp → VK → Prop := fun xs H Q => ∃ (C dd : Addr) (fs : List (Str × V)) (c : V) (u : Value) (b : Bool),
  cls = .ref C ∧ d = some dd ∧ H dd = some (.xd fs) ∧ ExcK K C ∧ xs = [.ref a, c] ∧ ClsV c u ∧ PySem.W.kitOne K (.ref C) u = some b ∧ Q (.bl b) H
def rIsXT (K : PySem.W.Frag) (a : Addr) (cls : Value) (d : Option Addr) : List V → Hp → VK → Prop := fun xs H Q => ∃ (C dd : Addr) (fs : List (Str × V)) (tp : Addr) (cs : List V) (us : List Value) (b : Bool),
  cls = .ref C ∧ d = some dd ∧ H dd = some (.xd fs) ∧ ExcK K C ∧ xs = [.ref a, .ref tp] ∧ H tp = some (.tup cs) ∧ Paired ClsV cs us ∧ PySem.W.kitAny K (.ref C) us = some b ∧ Q (.bl b) H
theorem inst_x {a C dd : Addr} {fs : List (Str × V)} {cls : Value} {d : Option Addr} {oe : Obj} {pn pins : List (Addr × Obj)} {σ : L2.St} {H : Hp} {s : Shared} (hz : Zc cls d oe) (hf : ∃ vs, oe.data = .fields vs) (I : Inv (X.suite a ((a, oe) :: pn)) pins σ H s) (e1 : cls = .ref C) (e2 : d = some dd) (e3 : H dd = some (.xd fs)) :
    ∃ od, PySem.W.InstAt s.heap a oe C od := by
  subst e1 e2
  have ⟨hget, _⟩ := I.pin (a, oe) (List.mem_append_left _ List.mem_cons_self)
  have ⟨vs, hd⟩ := hf
  have ⟨_, hns, _⟩ := (show ObjOk X.prog X.w H s.heap dd (.xd fs) from I.hok dd _ e3)
  have ⟨od, ho, _⟩ := lookIn_ns hns
  exact ⟨some od, ⟨hget, hz.1, by unfold PySem.W.notCls; rw [hd] <;> rfl, by rw [hz.2]; exact ho⟩⟩
theorem call_isX {a : Addr} {cls : Value} {d : Option Addr} {oe : Obj} {pn : List (Addr × Obj)} (hz : Zc cls d oe) (hf : ∃ vs, oe.data = .fields vs) : CallR (X.suite a ((a, oe) :: pn)) (.builtin "isinstance") (rIsX X.K a cls d) := by
  rintro ps₁ s₁ τ G xs us R J r ⟨C, dd, fs, c, u, b, e1, e2, e3, T, rfl, k, e, q⟩
  have ⟨v1, v2, ev, w1, w2⟩ := vals2 r
  subst ev
  have ec := k.eq w2
  subst ec
  obtain rfl : v1 = Value.ref a := w1
  have ⟨od, at_⟩ := inst_x hz hf J e1 e2 e3
  exact PySem.W.kia_one (PySem.W.kitx_exc T.hc T.hg T.hk T.hs T.ha T.hn T.ht T.hm) J.kIn at_ e (fun z => nomatch z) fun tk => ⟨.bl b, G, J.tok tk, rfl, q⟩
theorem call_isXT {a : Addr} {cls : Value} {d : Option Addr} {oe : Obj} {pn : List (Addr × Obj)} (hz : Zc cls d oe) (hf : ∃ vs, oe.data = .fields vs) : CallR (X.suite a ((a, oe) :: pn)) (.builtin "isinstance") (rIsXT X.K a cls d) := by
  rintro ps₁ s₁ τ G xs us R J r ⟨C, dd, fs, tp, cs, ws, b, e1, e2, e3, T, rfl, hT, k, e, q⟩
  have ⟨v1, v2, ev, w1, w2⟩ := vals2 r
  subst ev
  obtain rfl : v2 = Value.ref tp := w2
  obtain rfl : v1 = Value.ref a := w1
  have ⟨od, at_⟩ := inst_x hz hf J e1 e2 e3
  obtain ⟨_, its, rv, ⟨oc, od', dt, sl⟩, g1, g2, n, g3⟩ : ObjOk X.prog X.w G s₁.heap tp (.tup cs) := J.hok tp _ hT
  have ew := ClsV.all k rv
  subst ew
  obtain rfl : oc = .type "tuple" := g2
  obtain rfl : dt = _ := g3
  exact PySem.W.kia_tup (PySem.W.kitx_exc T.hc T.hg T.hk T.hs T.ha T.hn T.ht T.hm) J.kIn at_ g1 e (fun z => nomatch z) fun tk => ⟨.bl b, G, J.tok tk, rfl, q⟩
end
end Lk

set_option Elab.async false
set_option linter.all false
set_option maxRecDepth 100000
set_option maxHeartbeats 2000000
namespace Lk
open PySem PySem.Spec PyProof.Rows L2
theorem deeper_guards (A : Around) (e : Env) : (A.deeper e).guards = A.guards := rfl
/-- a def's promise, where no repr is under way -/
structure FnG (P : Program) (w : World) (K : PySem.W.Frag) (mg : Str → Option Value) (base : Heap) (CX : CXT) (k : Nat) (f : Addr) (fd : FuncData) (ps : List Str) (sp : Sp) : Prop where
  len : ∀ vs H Q E, sp vs H Q E → vs.length = ps.length
  run : ∀ (A : Around) (outer : List Env) (s : Shared) (H : Hp) (args : Args) (us : List Value) (vs : List V) (Q : VK) (E : XK),
    A.guards = some [] → Room k A → Env0 P w K mg base A outer s H → BindsTo s fd args (ps.zip us) → Vals vs us → sp vs H Q E →
      codeAny (model P w) A (.call (.ref f) args) (CR CX outer P w H s Q E) s
section
variable {P : Program} {w : World} {K : PySem.W.Frag} {mg : Str → Option Value} {base : Heap} {CX : CXT}
theorem FnG.mono {j k : Nat} {f : Addr} {fd : FuncData} {ps : List Str} {sp : Sp} (F : FnG P w K mg base CX j f fd ps sp) (h : j ≤ k) : FnG P w K mg base CX k f fd ps sp :=
  ⟨F.len, fun A outer s H args us vs Q E g hr => F.run A outer s H args us vs Q E g (hr.mono h)⟩
theorem FnG.of {k : Nat} {f : Addr} {fd : FuncData} {ps : List Str} {sp : Sp} (F : FnOk P w K mg base CX k f fd ps sp) : FnG P w K mg base CX k f fd ps sp :=
  ⟨F.len, fun A outer s H args us vs Q E _ hr => F.run A outer s H args us vs Q E hr⟩
theorem okG {x qual : Str} {st : Stmt} {f : Addr} {fd : FuncData} {N ps : List Str} {k : Nat} {sp : Sp} (F : Fun K x qual st f fd) (S : FnScope N ps (defScope st)) (len : ∀ vs H Q E, sp vs H Q E → vs.length = ps.length)
    (body : ∀ (cdv : Value) (A : Around) (outer : List Env) (s : Shared) (H : Hp) (vs : List V) (Q : VK) (E : XK), A.guards = some [] → Room k (A.deeper (envOfC qual (defScope st) s.heap.objs.size f cdv)) → sp vs H Q E →
      ∃ t, PSs (cxOf CX0 P w K mg base N qual (defScope st) f cdv A outer s H E).nox (defBody st) t ∧ t { nx := fun _ H' => Q .non H', rt := Q } (L2.start N vs) H) :
    FnG P w K mg base CX0 (k + 1) f fd ps sp := by
  obtain ⟨oc, od, kV, doc, pm, an, cdv, ct, osl, e, lk, hc⟩ := F.ex
  subst e
  refine ⟨len, fun A outer s H args us vs Q E g hr e0 hb r hsp => ?_⟩
  refine LamX.run_ofS lk hc S hr e0 hb r (len _ _ _ _ hsp) fun hr2 => ?_
  obtain ⟨t, h1, h2⟩ := body cdv A outer s H vs Q E g hr2 hsp
  exact ⟨t, h1.nox, h2⟩
end
section
variable {X : Cx} {CX : CXT} {k : Nat} {f : Addr} {fd : FuncData} {ps : List Str} {sp : Sp} {E : XK} {x : Str} {p pos : Pos} {e : Expr} {es : List Expr} {t : TA} {ds : List Value} {dvs : List V}
theorem run_fnG {pins : List (Addr × Obj)} {σ : L2.St} {H : Hp} {s : Shared} {Q : VK} {us : List Value} {vs : List V} (F : FnG X.prog X.w X.K X.mg X.base CX k f fd ps sp) (gu : X.A.guards = some []) (hr : Room k X.A) (hb : Binds X.K fd ps ds) (hd : Vals dvs ds)
    (hx : Passes CX X E) (I : Inv X pins σ H s) (r : Vals vs us) (h : sp (vs ++ dvs) H Q E) : wpAny (model X.prog X.w) X.A (call (.ref f) us) (EP X pins σ Q) X.xe s := by
  have rr := r.append hd
  have ln : (us ++ ds).length = ps.length := rr.length ▸ F.len _ _ _ _ h
  have c := F.run X.A X.stack s H ⟨us, []⟩ (us ++ ds) (vs ++ dvs) Q E gu hr I.env0 (hb s us I.kIn ln) rr h
  refine wpAny_call (codeAny_mono c fun o s2 ho => ?_)
  match o, ho with
  | .error er, ho => exact hx pins σ H s er s2 I ho
  | .ok (.ret _), ho => exact I.after ho
  | .ok .next, ho => exact ho.elim
  | .ok .brk, ho => exact ho.elim
  | .ok .cont, ho => exact ho.elim
theorem pe_callG (F : FnG X.prog X.w X.K X.mg X.base CX k f fd ps sp) (gu : X.A.guards = some []) (hr : Room k X.A) (hg : Gl X x) (hm : X.mg x = some (.ref f)) (hk : PySem.W.keepIn X.K (.ref f) = true) (hb : Binds X.K fd ps ds) (hd : Vals dvs ds) (hx : Passes CX X E)
    (ha : PA X (e :: es) t) (hdb : (x == ("__debug__" : Str)) = false := by decide) (he : starEach (e :: es) X.env = (false, eval e X.env) :: starEach es X.env := by rfl) (hpl : (backTo pos (starEach es X.env)).any (·.1) = false := by rfl) :
    PE X (.Call (.Name x p) (e :: es) [] pos) (tCall sp dvs E t) :=
  ⟨fun pins s σ H Q I h => wpAny_Call_Name_kw (ld_glob I hg hm (PySem.W.callWith_K (h₀ := X.base) I.ok.mod.kin hk
    (thn (ha.run pos pins s σ H _ I h) fun us s1 ⟨vs, H1, I1, r, q⟩ => ⟨I1.kIn, run_fnG F gu hr hb hd hx I1 r q⟩) he hpl) hdb)⟩
end
/-! ### repr of data -/
def rRepr (K : PySem.W.Frag) : List V → Hp → VK → Prop := fun xs H Q => ∃ (x : V) (d : PyData), xs = [x] ∧ Dp K H x d ∧ isDisplay d = true ∧ d.showable = true ∧ d.hasDict = false ∧ d.depth ≤ 100 ∧ d.shown.length ≤ sizeLine ∧ Q (.str d.shown) H
theorem call_reprD {X : Cx} (gu : X.A.guards = some []) (hu : X.A.units + 200 < cLine) : CallR X (.builtin "repr") (rRepr X.K) := by
  intro pins s σ H xs us Q I r h
  obtain ⟨x, d, e, hd, i, sh, nd, dp, sz, q⟩ := h
  subst e
  obtain ⟨u, e, rx⟩ := vals1 r
  subst e
  obtain ⟨as, rd⟩ := hd.reads I d x u rx
  obtain ⟨a, e⟩ := isRef_of_reads rd i
  subst e
  refine repr_of_reads' rd sh (PyData.noDict_hsm nd) gu (by omega) (fun _ _ z => z) (fun h' t k z => ?_) sz
  exact ⟨.str d.shown, H, I.kept (t' := k) z, ⟨t, rfl⟩, q⟩
end Lk

set_option Elab.async false
set_option linter.all false
set_option maxRecDepth 100000
set_option maxHeartbeats 2000000
namespace Lk
open PySem PySem.Spec PyProof.Rows L2
/-! ### the end of a law whose def is promised where no repr is under way -/
def Fine (s₁ : Shared) : Result → Shared → Prop := fun r s' => r = .ok (.ret (.bool true)) ∧ OldK s₁.heap s'.heap ∧ s'.os = s₁.os ∧ AllBare s'.gens
section
variable {P : Program} {w : World} {K : PySem.W.Frag} {mg mb : Str → Option Value} {CX : CXT} {k : Nat} {fa a : Addr} {fd : FuncData} {x : Str} {sp : Sp} {s₁ : Shared} {vs : List Value} {ns : List Int}
/-- what is tracked at the start: nothing, or the script alone -/
structure Begin (P : Program) (w : World) (K : PySem.W.Frag) (H : Hp) (h : Heap) (a : Addr) : Prop where
  only : Only H
  good : HOk P w H h
  one : ∀ b, H b ≠ none → b = a
  out : H a ≠ none → K.lookup a = none
theorem Begin.sees {H : Hp} (B : Begin P w K H s₁.heap a) (ha : s₁.heap.get? a = some { cls := .type "list", data := .seq vs.toArray }) {b : Addr} {m : Str → Option Value} (n : s₁.heap.Ns b m) : (hidT s₁.heap H).Ns b m := by
  obtain ⟨o, es, ep, e, d, r⟩ := n
  cases q : H b with
  | none => exact ⟨o, es, ep, hidT_get e q, d, r⟩
  | some u =>
    have z := B.one b (by rw [q]; exact fun y => nomatch y)
    subst z
    rw [ha] at e
    obtain rfl := Option.some.inj e
    exact nomatch d
theorem Begin.keeps {H : Hp} (B : Begin P w K H s₁.heap a) (KX : K.In s₁.heap) : K.In (hidT s₁.heap H) := fun b o e => by
  refine hidT_get (KX b o e) ?_
  cases q : H b with
  | none => rfl
  | some u =>
    have y : H b ≠ none := by rw [q]; exact fun y => nomatch y
    have z := B.one b y
    subst z
    rw [B.out y] at e
    exact nomatch e
theorem Begin.goes {H : Hp} (B : Begin P w K H s₁.heap a) (KX : K.In s₁.heap) (hns : s₁.heap.Ns mainGlobals mg) (hb : s₁.heap.Ns builtinsNs mb) (hbb : ∀ x : Str, x ≠ "__name__" → mb x = bootBuiltins x) (hlim : s₁.heap.NoLimit) (hg : s₁.gens = #[])
    (ha : s₁.heap.get? a = some { cls := .type "list", data := .seq vs.toArray }) (hr : Room k callerA)
    (F : ∀ base : Heap, K.In base → base.Ns mainGlobals mg → FnG P w K mg base CX k fa fd [x] sp) (bind : ∀ (s : Shared) (u : Value), BindsTo s fd ⟨[u], []⟩ [(x, u)])
    (hsp : sp [.ref a] H (fun v _ => v = .bl true) fun _ _ _ => False) (hCX : ∀ H e s', CX [] H s₁ (fun _ _ _ => False) e s' → False) : codeAny (model P w) callerA (.call (.ref fa) ⟨[.ref a], []⟩) (Fine s₁) s₁ := by
  obtain ⟨mc, l1, l2⟩ := hlim
  have M : Mod K mg (hidT s₁.heap H) := ⟨B.keeps KX, B.sees ha hns, ⟨mb, B.sees ha hb, hbb⟩, mc, B.sees ha l1, l2⟩
  have e0 : Env0 P w K mg (hidT s₁.heap H) callerA [] s₁ H := by
    refine ⟨rfl, M, fun b o e => of_hidT e, ?_, trivial, fun b z => ?_, B.good, .of_eq hg⟩
    · rw [hidT_size]; exact Nat.le_refl _
    · exact nomatch (show b ∈ ([] : List Addr) from z)
  have c := (F _ (B.keeps KX) (B.sees ha hns)).run callerA [] s₁ H ⟨[.ref a], []⟩ [.ref a] [.ref a] _ _ rfl hr e0 (bind s₁ (.ref a)) (.cons rfl .nil) hsp
  refine codeAny_mono c fun r s' z => ?_
  match r, z with
  | .error e, z => exact (hCX H e s' z).elim
  | .ok .next, z => exact z.elim
  | .ok .brk, z => exact z.elim
  | .ok .cont, z => exact z.elim
  | .ok (.ret u), z =>
    obtain ⟨v, H', os, bare, un, good', rv, q⟩ := z
    obtain rfl : v = .bl true := q
    obtain rfl : u = Value.bool true := rv
    refine ⟨rfl, OldK.of_keep fun b o e => ?_, os, bare⟩
    rcases B.only b with y | ⟨ob, xs, y⟩
    · exact un.keep b o e y (fun t => nomatch (show b ∈ ([] : List Addr) from t)) (fun t => nomatch t)
    · have y2 := un.frzs b ob _ y
      have g1 := (B.good b _ y).1
      have g2 := (good' b _ y2).1
      rw [e] at g1
      obtain rfl := Option.some.inj g1
      exact g2
theorem law_go (KX : K.In s₁.heap) (hns : s₁.heap.Ns mainGlobals mg) (hb : s₁.heap.Ns builtinsNs mb) (hbb : ∀ x : Str, x ≠ "__name__" → mb x = bootBuiltins x) (hlim : s₁.heap.NoLimit) (hg : s₁.gens = #[])
    (ha : s₁.heap.get? a = some { cls := .type "list", data := .seq vs.toArray }) (hi : IntsAre vs ns) (hl : ns.length ≤ sizeLine) (hr : Room k callerA)
    (F : ∀ base : Heap, K.In base → base.Ns mainGlobals mg → FnG P w K mg base CX k fa fd [x] sp) (bind : ∀ (s : Shared) (u : Value), BindsTo s fd ⟨[u], []⟩ [(x, u)])
    (hsp : ∀ H : Hp, Only H → SqL K H a (ns.map V.int) → sp [.ref a] H (fun v _ => v = .bl true) fun _ _ _ => False) (hCX : ∀ H e s', CX [] H s₁ (fun _ _ _ => False) e s' → False) : codeAny (model P w) callerA (.call (.ref fa) ⟨[.ref a], []⟩) (Fine s₁) s₁ := by
  have vi := vals_ints hi
  by_cases hk : K.lookup a = none
  · let H : Hp := fun b => if b = a then some (.frz { cls := .type "list", data := .seq vs.toArray } (.lst (ns.map V.int))) else none
    have ya : H a = some (.frz { cls := .type "list", data := .seq vs.toArray } (.lst (ns.map V.int))) := if_pos rfl
    have yb : ∀ b, b ≠ a → H b = none := fun b z => if_neg z
    have B : Begin P w K H s₁.heap a := by
      refine ⟨fun b => ?_, fun b u z => ?_, fun b z => ?_, fun _ => hk⟩
      · by_cases y : b = a
        · subst y; exact .inr ⟨_, _, ya⟩
        · exact .inl (yb b y)
      · by_cases y : b = a
        · subst y
          rw [ya] at z
          obtain rfl := Option.some.inj z
          exact ⟨ha, by rw [List.length_map]; exact hl, vs, _, vi, ha⟩
        · rw [yb b y] at z; exact nomatch z
      · by_cases y : b = a
        · exact y
        · exact absurd (yb b y) z
    exact B.goes KX hns hb hbb hlim hg ha hr F bind (hsp H B.only (.inl (.inr ⟨_, ya⟩))) hCX
  · obtain ⟨o, ho⟩ := Option.ne_none_iff_exists'.mp hk
    have e := KX a o ho
    rw [ha] at e
    obtain rfl := Option.some.inj e
    have B : Begin P w K (fun _ => none) s₁.heap a := ⟨fun _ => .inl rfl, fun _ _ z => (nomatch z), fun _ z => absurd rfl z, fun z => absurd rfl z⟩
    refine B.goes KX hns hb hbb hlim hg ha hr F bind (hsp _ B.only (.inr ⟨_, vs.toArray, _, ho, rfl, rfl, rfl, ?_, ?_⟩)) hCX
    · rw [List.size_toArray, hi.length]; exact hl
    · exact vi
end
/-- the goal that k_head leaves (case hc) -/
theorem walk_go {l : PySem.W.OpenLaw} {n k : Nat} {q : Program} {loose : List Str} {XP : (Str → Option Value) → Heap → Prop} {YP : World → Heap → Prop} {d : DefRec} {K : Params → PySem.W.Frag} {CX : CXT} {sp : PySem.W.Frag → Sp} {x : Str}
    (hn : l.most = some n) (hn2 : n ≤ sizeLine) (hdf : d.params.defaults = []) (hr : Room k callerA) (hY : ∀ (w : World) (h : Heap), YP w h → (K w.params).In h)
    (F : ∀ (w : World) (mg : Str → Option Value) (fa : Addr) (h : Heap), (K w.params).In h → h.Ns mainGlobals mg → mg d.name = some (.ref fa) →
      ∃ fd : FuncData, (∀ (s : Shared) (u : Value), BindsTo s fd ⟨[u], []⟩ [(x, u)]) ∧ ∀ base : Heap, (K w.params).In base → base.Ns mainGlobals mg → FnG l.prog w (K w.params) mg base CX k fa fd [x] (sp (K w.params)))
    (hsp : ∀ (K : PySem.W.Frag) (H : Hp) (a : Addr) (ns : List Int), ns.length ≤ n → Only H → SqL K H a (ns.map V.int) → sp K [.ref a] H (fun v _ => v = .bl true) fun _ _ _ => False)
    (hCX : ∀ (H : Hp) (s : Shared) (e : Value) (s' : Shared), CX [] H s (fun _ _ _ => False) e s' → False) : PySem.W.WalkO q loose XP YP l.row.toRowW d [] (fun f vs => PySem.call f vs) := by
  refine Att.attach_call hn hdf fun w s₀ s₁ mg mb fa o pm cd doc a vs ns G Y ho hd hcd hmg hobj hints hlen hg => ?_
  obtain ⟨fd, hb, hF⟩ := F w mg fa _ (hY w _ Y) G.T.g hmg
  exact law_go (hY w _ Y) G.T.g G.T.b G.T.builtins G.T.nolimit hg hobj hints (Nat.le_trans hlen hn2) hr hF hb (fun H hO hS => hsp (K w.params) H a ns hlen hO hS) fun H e s' => hCX H s₁ e s'
end Lk

set_option Elab.async false
set_option linter.all false
set_option maxRecDepth 100000
set_option maxHeartbeats 2000000
namespace Lk
open PySem PySem.Spec PyProof.Rows L2
/-! ### tuples: what comes stands at some place -/
section
variable {X : Cx}
def rCatS (K : PySem.W.Frag) : R2 := fun x y H Q => ∃ a b xs ys, x = .ref a ∧ y = .ref b ∧ SqT K H a xs ∧ SqT K H b ys ∧ xs.length + ys.length ≤ sizeLine ∧ ∀ p H', Same H H' → SqT K H' p (xs ++ ys) → Q (.ref p) H'
theorem op_catS : OpR X (binaryOp .Add) (rCatS X.K) := by
  intro pins s σ H x y v u Q I rx ry h
  obtain ⟨a, b, xs, ys, ex, ey, ha, hb, hz, q⟩ := h
  refine op_catA pins s σ H x y v u Q I rx ry ⟨a, b, xs, ys, ex, ey, ha, hb, hz, fun e => ?_, fun _ e => ?_, fun _ _ p hp => ?_⟩
  · subst e; exact q b H (Same.refl _) hb
  · subst e; exact q a H (Same.refl _) (by rw [List.append_nil]; exact ha)
  · exact q p _ (same_new hp _) (SqT.of upd_same)
def rSlS (K : PySem.W.Frag) : V → Option Int → Option Int → Hp → VK → Prop := fun x lo hi H Q => ∃ a xs, x = .ref a ∧ SqT K H a xs ∧ ∀ p H', Same H H' → SqT K H' p (cutV xs lo hi) → Q (.ref p) H'
theorem cut_whole {xs : List V} {lo hi : Option Int} (h : HT.sIx xs.length 0 lo = 0 ∧ HT.sIx xs.length xs.length hi = xs.length) : cutV xs lo hi = xs := by
  unfold cutV
  rw [h.1, h.2, List.drop_zero, Nat.sub_zero, List.take_length]
theorem sl_tupS : SlR X (rSlS X.K) := by
  intro pins s σ H x v vl vu lo hi sl Q I rx hs pl pu h
  obtain ⟨a, xs, ex, hx, q⟩ := h
  refine sl_tupA pins s σ H x v vl vu lo hi sl Q I rx hs pl pu ⟨a, xs, ex, hx, fun w => q a H (Same.refl _) ?_, fun _ p hp => q p _ (same_new hp _) (SqT.of upd_same)⟩
  rw [cut_whole w]; exact hx
theorem cut_hi {xs : List V} {n : Nat} : cutV xs none (some (n : Int)) = xs.take n := by
  unfold cutV
  have e1 : HT.sIx xs.length 0 none = 0 := by simp [HT.sIx]
  rw [e1, List.drop_zero, Nat.sub_zero]
  have e2 : HT.sIx xs.length xs.length (some (n : Int)) = min n xs.length := by
    simp only [HT.sIx]
    try split
    all_goals omega
  rw [e2]
  by_cases h : n ≤ xs.length
  · rw [Nat.min_eq_left h]
  · rw [Nat.min_eq_right (by omega), List.take_length, List.take_of_length_le (by omega)]
theorem cut_lo {xs : List V} {n : Nat} : cutV xs (some (n : Int)) none = xs.drop n := by
  unfold cutV
  have e1 : HT.sIx xs.length xs.length none = xs.length := by simp [HT.sIx]
  have e2 : HT.sIx xs.length 0 (some (n : Int)) = min n xs.length := by
    simp only [HT.sIx]
    try split
    all_goals omega
  rw [e1, e2]
  by_cases h : n ≤ xs.length
  · rw [Nat.min_eq_left h, List.take_of_length_le (by rw [List.length_drop]; omega)]
  · rw [Nat.min_eq_right (by omega), List.drop_length, List.drop_of_length_le (by omega), List.take_nil]
/-! ### (z,) * k -/
theorem mul_self (l : Addr) (items : Array Value) (n : Nat) (dd : Option Addr) (sl : Array (Option Value)) (u : Tok) :
    Meets (Builtin.«tuple.__mul__» ⟨[.ref l, .int 1 u], []⟩) (fun _ R s => s.heap.get? l = some { cls := .type "tuple", dict := dd, data := .seq items n, slots := sl } ∧ R (.ok (.ret (Value.ref l))) s) :=
  .of_wp fun prog w A R s h => by
    obtain ⟨hp, g, d, tk, os⟩ := s
    obtain ⟨hl, h⟩ := h
    have f1 := AutoSeq1.idx_int
    wp_walk using wpAny_loadPart' hl
    all_goals first | exact ⟨_, rfl, h⟩ | trace_state
theorem mul_nought (l : Addr) (items : Array Value) (n : Nat) (dd : Option Addr) (sl : Array (Option Value)) (u : Tok) (ne : items.isEmpty = false) :
    Meets (Builtin.«tuple.__mul__» ⟨[.ref l, .int 0 u], []⟩) (fun _ R s => s.heap.get? l = some { cls := .type "tuple", dict := dd, data := .seq items n, slots := sl } ∧
      R (.ok (.ret (Value.ref s.heap.objs.size))) { s with heap := s.heap.push { cls := Value.type "tuple", data := Data.seq #[] }, toks := s.toks }) :=
  .of_wp fun prog w A R s h => by
    obtain ⟨hp, g, d, tk, os⟩ := s
    obtain ⟨hl, h⟩ := h
    have f1 := AutoSeq1.idx_int
    have c1 : (items.isEmpty || (0 : Int) == 1) = false := by rw [ne]; rfl
    wp_walk using wpAny_loadPart' hl
    repeat (first
      | (refine wpAny_ite_false (decide_eq_false (by rw [c1]; exact Bool.false_ne_true)) ?_; wp_walk using wpAny_loadPart' hl))
    all_goals first | exact ⟨_, rfl, h⟩ | trace_state
/-- (z,) * k -/
def rRepS (K : PySem.W.Frag) : R2 := fun x y H Q => ∃ l k z, x = .ref l ∧ y = .int k ∧ SqT K H l [z] ∧ 0 ≤ k ∧ k ≤ 1000 ∧ ∀ p H', Same H H' → SqT K H' p (List.replicate k.toNat z) → Q (.ref p) H'
theorem rep_one (z : V) : ∀ n, (List.replicate n [z]).flatten = List.replicate n z
  | 0 => rfl
  | n + 1 => by rw [List.replicate_succ, List.flatten_cons, rep_one z n]; rfl
theorem op_repS : OpR X (binaryOp .Mult) (rRepS X.K) := by
  intro pins s σ H x y v u Q I rx ry h
  obtain ⟨l, k, z, ex, ey, hT, h0, h1, q⟩ := h
  by_cases c : 2 ≤ k
  · refine op_repT pins s σ H x y v u Q I rx ry ⟨l, k, [z], ex, ey, hT, (fun e => nomatch e), c, h1, (by show 1 ≤ 1000; decide), fun p hp => ?_⟩
    rw [rep_one]
    exact q p _ (same_new hp _) (SqT.of upd_same)
  subst ex ey
  obtain rfl : v = Value.ref l := rx
  obtain ⟨t, rfl⟩ := ry
  obtain ⟨its, r, ⟨⟨cls, dd, data, sl⟩, ho, hc, n, hd⟩, hs⟩ := I.tuple hT
  simp only at hc hd
  subst hc hd
  have hn : its.toArray.isEmpty = false := by
    cases r with
    | cons a b => rfl
  rcases (by omega : k = 0 ∨ k = 1) with e | e
  · subst e
    refine wpAny_binaryOp_repeat_ref (T := "tuple") (U := "int") (by decide) ⟨_, ho, rfl⟩ (fun s' => typeIs_int s' 0 t) noFill_tuple_mul F.fills_int_mul F.slot_int_rmul repeat_tuple F.slot_int_index.lookup
      (call_meets F.slot_int_rmul (typeIs_int s 0 t) F.entry_int_rmul (F.args_int_rmul_2 _ _) (int_rmul_tuple 0 t l its.toArray n dd sl)
        ⟨ho, rfl, ⟨_, ho, rfl⟩, call_meets F.slot_tuple_mul ⟨_, ho, rfl⟩ F.entry_tuple_mul (F.args_tuple_mul_2 _ _) (mul_nought l its.toArray n dd sl t hn) ⟨ho, ?_⟩⟩)
    refine ⟨.ref s.heap.objs.size, _, I.laid (t' := s.toks) (o := .tup []) (fun b ob q => Heap.get?_push_of_some _ q) (Nat.le_refl _) ?_, rfl, q _ _ (same_new (I.hok.fresh (Nat.le_refl _)) _) (SqT.of upd_same)⟩
    exact ⟨by decide, [], .nil, IsTup.new _ _⟩
  · subst e
    refine wpAny_binaryOp_repeat_ref (T := "tuple") (U := "int") (by decide) ⟨_, ho, rfl⟩ (fun s' => typeIs_int s' 1 t) noFill_tuple_mul F.fills_int_mul F.slot_int_rmul repeat_tuple F.slot_int_index.lookup
      (call_meets F.slot_int_rmul (typeIs_int s 1 t) F.entry_int_rmul (F.args_int_rmul_2 _ _) (int_rmul_tuple 1 t l its.toArray n dd sl)
        ⟨ho, rfl, ⟨_, ho, rfl⟩, call_meets F.slot_tuple_mul ⟨_, ho, rfl⟩ F.entry_tuple_mul (F.args_tuple_mul_2 _ _) (mul_self l its.toArray n dd sl t) ⟨ho, ?_⟩⟩)
    exact ⟨.ref l, H, I, rfl, q l H (Same.refl _) hT⟩
/-! ### any of a tuple of ints -/
def rAnyT (K : PySem.W.Frag) : List V → Hp → VK → Prop := fun vs H Q => ∃ (a : Addr) (ns : List Int), vs = [V.ref a] ∧ SqT K H a (iV ns) ∧ Q (.bl (ns.any (· != 0))) H
theorem truth_ints {prog : Program} {w : World} {A : Around} {ns : List Int} {its : List Value} (r : Vals (iV ns) its) :
    TruthOf prog w A (fun i v => its.toArray[i]? = some v) (fun i => ns.getD i 0 != 0) := fun i v s Q E hv hq => by
  have hv' : its[i]? = some v := by simpa using hv
  have hlt : i < (iV ns).length := by
    rw [r.length]
    exact (List.getElem?_eq_some_iff.mp hv').1
  obtain ⟨n, hn, hy⟩ := iV_get (List.getElem?_eq_getElem hlt)
  obtain ⟨u, e, ru⟩ := r.get (List.getElem?_eq_getElem hlt)
  rw [hv'] at e
  obtain rfl := Option.some.inj e
  rw [hy] at ru
  obtain ⟨t, rfl⟩ := ru
  have hg : ns.getD i 0 = n := by rw [List.getD_eq_getElem?_getD, hn] <;> rfl
  have hq' : Q (ns.getD i 0 != 0) s := hq
  rw [hg] at hq'
  exact PySem.P.truthy_int hq'
theorem any_turns (ns : List Int) : (List.range ns.length).any (fun i => ns.getD i 0 != 0) = ns.any (· != 0) := by
  rw [Bool.eq_iff_iff, List.any_eq_true, List.any_eq_true]
  constructor
  · rintro ⟨i, hi, h⟩
    have hi' : i < ns.length := List.mem_range.mp hi
    refine ⟨ns[i], List.getElem_mem hi', ?_⟩
    rw [List.getD_eq_getElem?_getD, List.getElem?_eq_getElem hi'] at h
    exact h
  · rintro ⟨x, hx, h⟩
    obtain ⟨i, hi, rfl⟩ := List.getElem_of_mem hx
    refine ⟨i, List.mem_range.mpr hi, ?_⟩
    rw [List.getD_eq_getElem?_getD, List.getElem?_eq_getElem hi]
    exact h
theorem cr_anyT (hc : X.calm = true) : CallR X (.builtin "any") (rAnyT X.K) := by
  intro pins s σ H vs us Q I r h
  obtain ⟨a, ns, rfl, hs, q⟩ := h
  obtain ⟨its, rv, ht, _⟩ := I.tuple hs
  rw [Vals.ref1 r]
  have hlt : a < s.heap.objs.size := by obtain ⟨_, e, _⟩ := ht; exact Heap.lt_size e
  refine call_any_walk (wpAny_pyIter_tuple ht ?_)
  have hne : a ≠ s.heap.objs.size := Nat.ne_of_lt hlt
  refine ⟨_, _, _, _, _, _, _, rfl, Walks.tuple (A := X.A.in1) (I.ok.hd hc) _ a hne its.toArray, ⟨⟨_, Heap.get?_push_size _ rfl, rfl, rfl⟩, ht.push _⟩, truth_ints rv, fun h' tk hk => ?_⟩
  refine ⟨.bl _, H, I.kept fun b o eo => hk b o (fun m => ?_) (Heap.get?_push_of_some _ eo), ?_, q⟩
  · have e1 := List.mem_singleton.mp m
    exact absurd (e1 ▸ Heap.lt_size eo) (Nat.lt_irrefl _)
  · show Value.bool _ = Value.bool _
    rw [← any_turns, List.size_toArray, ← rv.length, iV_len]
end
theorem walk_zipT {K : PySem.W.Frag} {a b : Addr} {xs ys : List V} {n : Nat} (hn : n = min xs.length ys.length) : Walk (RZ.ItzT K a b) n (fun H => SqT K H a xs ∧ SqT K H b ys) (YPair (fun i => xs[i]?) (fun i => ys[i]?)) where
  goes i H hi q := by
    subst hn
    exact ⟨xs, ys, xs[i]'(by omega), ys[i]'(by omega), q.1, q.2, by simp, by simp⟩
  stops H q := ⟨xs, ys, q.1, q.2, by omega⟩
  yields i H v H' _ q y := by
    obtain ⟨T, x, z, e, f, g, hx, hy⟩ := y
    exact ⟨T, x, z, e, f, g, hx xs q.1, hy ys q.2⟩
end Lk

set_option Elab.async false
set_option linter.all false
set_option maxRecDepth 100000
set_option maxHeartbeats 2000000
namespace Lk
open PySem PySem.Spec PyProof.Rows L2
/-! ### the layer's rules with the written part named: within a comprehension's element -/
section
variable {X : Cx} {K : PySem.W.Frag}
theorem ix_tupK (e : X.K = K) : IxR X (rIxT K) := e ▸ ix_tup
theorem ix_listK (e : X.K = K) : IxR X (rIxL K) := e ▸ ix_list
theorem pi_tupK {tg l : Expr} {tl : TE} (e : X.K = K) (h : PE X l tl) : PI X tg l (iTup K tl) := e ▸ pi_tup h
theorem pi_listK {tg l : Expr} {tl : TE} (e : X.K = K) (h : PE X l tl) : PI X tg l (iList K tl) := e ▸ pi_list h
theorem cr_sumK (e : X.K = K) (hc : X.calm = true) : CallR X (.builtin "sum") (rSum K) := e ▸ cr_sum hc
theorem cr_maxK (e : X.K = K) (hc : X.calm = true) : CallR X (.builtin "max") (rMax K) := e ▸ cr_max hc
theorem cr_minK (e : X.K = K) (hc : X.calm = true) : CallR X (.builtin "min") (rMin K) := e ▸ cr_min hc
theorem cr_allK (e : X.K = K) (hc : X.calm = true) : CallR X (.builtin "all") (rAll K) := e ▸ cr_all hc
theorem cr_anyK (e : X.K = K) (hc : X.calm = true) : CallR X (.builtin "any") (rAny K) := e ▸ cr_any hc
def rLenS (K : PySem.W.Frag) : List V → Hp → VK → Prop := fun xs H Q => ∃ p ys, xs = [.ref p] ∧ (SqL K H p ys ∨ SqT K H p ys) ∧ Q (.int ys.length) H
theorem call_lenK (e : X.K = K) : CallR X (.builtin "len") (rLenS K) := e ▸ call_len_seq
theorem call_isiK (e : X.K = K) : CallR X (.builtin "isinstance") (rIsi K) := e ▸ call_isi
theorem op_inK (e : X.K = K) : OpR X (compareOp .In) (rIn K false) := e ▸ op_in_seq
theorem op_notInK (e : X.K = K) : OpR X (compareOp .NotIn) (rIn K true) := e ▸ op_notIn_seq
theorem op_eqDK (e : X.K = K) (hu : X.A.units + 64 < cLine) : OpR X (compareOp .Eq) (rEqD K) := e ▸ op_eqD hu
theorem op_neDK (e : X.K = K) (hu : X.A.units + 64 < cLine) : OpR X (compareOp .NotEq) (rNeD K) := e ▸ op_neD hu
theorem op_catK (e : X.K = K) : OpR X (binaryOp .Add) (rCatS K) := e ▸ op_catS
theorem op_repK (e : X.K = K) : OpR X (binaryOp .Mult) (rRepS K) := e ▸ op_repS
theorem sl_tupK (e : X.K = K) : SlR X (rSlS K) := e ▸ sl_tupS
end
end Lk

set_option Elab.async false
set_option linter.all false
set_option maxRecDepth 100000
set_option maxHeartbeats 2000000
namespace Lk
open PySem PySem.Spec PyProof.Rows L2
theorem fun_binds {K : PySem.W.Frag} {x qual : Str} {st : Stmt} {f : Addr} {fd : FuncData} {ps ks : List Str} {g : List Value → List Value → List Value} {gV : List V → List V → List V} (F : Fun K x qual st f fd)
    (h : ∀ (kV doc pm : Value) (an : Option Addr) (cdv ct : Value) (us ws : List Value), (g us ws).length = ps.length → bindArgs (PySem.W.fnOf x qual (defArgs st) (defBody st) (defScope st) .none kV doc pm an cdv ct) ⟨us, ks.zip ws⟩ = pure (ps.zip (g us ws)))
    (rel : ∀ {vs : List V} {us : List Value} {zs : List V} {ws : List Value}, Vals vs us → Vals zs ws → Vals (gV vs zs) (g us ws)) : KBinds K fd ps ks g gV := by
  obtain ⟨oc, od, kV, doc, pm, an, cdv, ct, osl, rfl, lk, hcd⟩ := F.ex
  exact ⟨fun s us ws _ hl => .of_eq (h kV doc pm an cdv ct us ws hl), rel⟩
theorem cls_some {K : PySem.W.Frag} {C : Addr} (h : PySem.W.hasDictIn K C = true) : (PySem.W.clsIn K C).isSome = true := by
  obtain ⟨cd, hc, _⟩ := PySem.W.any_some h
  rw [hc]
  rfl
theorem kit_self {K : PySem.W.Frag} {C : Addr} : PySem.W.kitOne K (.ref C) (.ref C) = some true := if_pos (by simp)
theorem kit_own {K : PySem.W.Frag} {C D : Addr} {b : Bool} (hc : (PySem.W.clsIn K D).isSome = true) (ht : PySem.W.typeIn K (.ref D) = some (.type "type")) (h4 : PySem.W.subIn K (.ref C) (.ref D) = some b) (hn : b = false → (Value.ref C == Value.ref D) = false) : PySem.W.kitOne K (.ref C) (.ref D) = some b := by
  have e2 : ((PySem.W.clsIn K D).isSome && PySem.W.typeIn K (.ref D) == some (.type "type")) = true := by rw [hc, ht] <;> rfl
  show (if (Value.ref C == Value.ref D) = true then some true else (if ((PySem.W.clsIn K D).isSome && PySem.W.typeIn K (.ref D) == some (.type "type")) = true then PySem.W.subIn K (.ref C) (.ref D) else none)) = some b
  rw [if_pos e2, h4]
  cases b with
  | true => split <;> rfl
  | false => rw [hn rfl]; rfl
theorem kit_blt {K : PySem.W.Frag} {C : Addr} {T : String} {b : Bool} (hm : PySem.W.kitMeta T = true) (h4 : PySem.W.subIn K (.ref C) (.type T) = some b) : PySem.W.kitOne K (.ref C) (.type T) = some b := by
  show (if (Value.ref C == Value.type T) = true then some true else if PySem.W.kitMeta T = true then PySem.W.subIn K (.ref C) (.type T) else none) = some b
  rw [if_neg (by simp), if_pos hm, h4]
end Lk

set_option Elab.async false
set_option linter.all false
set_option maxRecDepth 100000
set_option maxHeartbeats 2000000
namespace Lk
open PySem PySem.Spec PyProof.Rows L2
section
variable {X : Cx}
/-- list(o.values()) -/
def tListVals (td : TE) : TE := fun σ H Q => td σ H fun x H1 => ∃ a kvs, x = V.ref a ∧ H1 a = some (.dK kvs) ∧ ∀ p, H1 p = none → Q (.ref p) (upd H1 p (.lst (kvs.map (·.2))))
variable {o : Expr} {p pos apos mpos : Pos} {td : TE}
theorem pe_listVals (hc : X.calm = true) (hg : Gl X "list") (hm : X.mg "list" = none) (hd : PE X o td) (hbase : attributeBase o "values" X.env (eval o X.env) = eval o X.env := by rfl) (hline : (apos.endLine == mpos.line) = true := by rfl)
    (hse : starEach [Expr.Call (.Attribute o "values" apos) [] [] mpos] X.env = [(false, eval (Expr.Call (.Attribute o "values" apos) [] [] mpos) X.env)] := by rfl) :
    PE X (.Call (.Name "list" p) [.Call (.Attribute o "values" apos) [] [] mpos] [] pos) (tListVals td) := by
  refine ⟨fun pins s σ H Q I h => ?_⟩
  refine wpAny_Call_Name_kw (ld_blt I hg hm (u := .type "list") (by first | rfl | decide +kernel) ?_ (by first | decide +kernel | decide) (by first | decide +kernel | decide))
  rw [hse]
  refine PySem.callWith_type1 (wpAny_Call_method0_late hbase hline (thn (hd.run pins s σ H _ I h) fun v s1 ⟨x, H1, I1, r1, a, kvs, ex, ha, q⟩ => ?_))
  subst ex
  obtain rfl : v = Value.ref a := r1
  obtain ⟨hz, hsys, vs, rel, dof⟩ := dk_of I1.hok ha
  obtain ⟨ep, dat⟩ := dof.dictAt
  have dat' := dat
  obtain ⟨ob, es, ho, ex, hdat, hko, hpr, hnd⟩ := dat'
  refine ⟨"dict", "dict.values", F.plainAttrs_dict, F.slot_dict_values, F.type_dict_values, ⟨ob, ho, ex.1⟩, fun b e => ?_, Calls.callWith_builtin rfl (PySem.evalArgs_none ?_)⟩
  · cases e
    exact ⟨ob, ho, ex.2.1⟩
  refine call_meetsIn F.slot_dict_values ⟨ob, ho, ex.1⟩ F.entry_dict_values (F.args_dict_values_1 _) (meets_dict_values (mixKind X.prog X.w) a hsys) ⟨⟨vs, dof⟩, ?_⟩
  have k1 : ∀ b u, s1.heap.get? b = some u → (s1.heap.push { cls := .type "dict_values", data := .fields #[.ref a] }).get? b = some u := fun b u e => Heap.get?_push_of_some _ e
  have dat1 : (s1.heap.push { cls := .type "dict_values", data := .fields #[.ref a] }).DictAt (mixKind X.prog X.w) a vs ep := dat.keep k1
  have I2 : Inv X pins σ H1 { s1 with heap := s1.heap.push { cls := .type "dict_values", data := .fields #[.ref a] } } := I1.kept (t' := s1.toks) k1
  have hl : kvs.length = vs.length := Paired.length rel
  refine PySem.W.kdl_call (r := s1.heap.objs.size) (PySem.W.kdl_values (knd := mixKind X.prog X.w) (kvs := vs) (ep := ep)) (I1.ok.hd hc) ⟨⟨_, Heap.get?_push_size _ rfl, rfl, rfl⟩, dat1⟩ (by rw [← hl]; exact hz) fun h' tk acc' c' hkeep hS hacc => ?_
  refine ⟨.ref _, upd H1 (s1.heap.push { cls := .type "dict_values", data := .fields #[.ref a] }).objs.size (.lst (kvs.map (·.2))), I2.laid hkeep (Nat.le_refl _) (show ObjOk X.prog X.w _ _ _ (.lst (kvs.map (·.2))) from ⟨?_, acc'.toList, c', ?_, ?_⟩), rfl, q _ (I2.hok.fresh (Nat.le_refl _))⟩
  · rw [List.length_map]; exact hz
  · have el : acc'.toList.length = acc'.size := by simp
    refine vals_of_at (by rw [List.length_map, el, hacc.1, hl]) fun j x w h1 h2 => ?_
    obtain ⟨k, hk⟩ := hacc.2 j w (by rw [← Array.getElem?_toList]; exact h2)
    obtain ⟨y, e1, e2⟩ := KV.at' rel hk
    rw [List.getElem?_map, e1] at h1
    cases h1
    exact e2
  · rw [Array.toArray_toList]; exact hS
/-- o.remove(e), by data: the first item that is equal is gone -/
def rRemD (K : PySem.W.Frag) : V → List V → Hp → VK → Prop := fun x vs H Q => ∃ (l : Addr) (xs : List V) (ds : List PyData) (y : V) (d : PyData) (j : Nat), x = .ref l ∧ vs = [y] ∧ H l = some (.lst xs) ∧ DpAll K H xs ds ∧ Dp K H y d ∧
  PyData.plainAll ds = true ∧ d.plain = true ∧ min (PyData.depthAll ds) d.depth ≤ 60 ∧ (ds.findIdx? fun z => PyData.eqv z d) = some j ∧ Q .non (upd H l (.lst (xs.eraseIdx j)))
theorem mt_removeD (hu : X.A.units + 65 < cLine) : MtM X "list.remove" (rRemD X.K) := by
  intro pins s σ H x vs v us Q I rx rv h
  obtain ⟨l, xs, ds, y, d, j, rfl, rfl, hH, hx, hy, p1, p2, p3, hj, q⟩ := h
  cases rx
  obtain ⟨u, rfl, ru⟩ := vals1 rv
  obtain ⟨z, its, n, r, hl, e⟩ := I.lstM hH
  obtain ⟨as, r1⟩ := Dp.readsAll I ds xs its hx r
  obtain ⟨bs, r2⟩ := Dp.reads I d y u hy ru
  have hsz : its.toArray.size ≤ sizeLine := by rw [List.size_toArray, ← hl]; exact z
  refine SeqAt.remove_list_data (l := l) (vs := its.toArray) (xs := ds) (x := u) (d := d) (j := j) ⟨_, e, rfl, n, rfl⟩ (by simpa using r1) r2 p1 p2 (by omega) hj hsz ?_
  refine ⟨.non, _, I.lset (its' := its.eraseIdx j) hH e ?_ (r.eraseIdx j) ?_, rfl, q⟩
  · show its.toArray.eraseIdxIfInBounds j = (its.eraseIdx j).toArray
    rw [List.eraseIdxIfInBounds_toArray]
  · have := len_erase xs j
    omega
end
end Lk

set_option Elab.async false
set_option linter.all false
set_option maxRecDepth 100000
set_option maxHeartbeats 2000000
namespace Lk
open PySem PySem.Spec PyProof.Rows L2
mutual
def noL : PyData → Bool
  | .list _ => false
  | .dict _ => false
  | .tuple ds => noLs ds
  | _ => true
def noLs : List PyData → Bool
  | [] => true
  | d :: ds => noL d && noLs ds
end
theorem seqT_off {K : PySem.W.Frag} {H : Hp} {a l : Addr} {xs ys : List V} (h : SqT K H a xs) (hl : H l = some (.lst ys)) : SqT K (del H l) a xs := by
  rcases h with (h | ⟨o, h⟩) | h
  · have n : a ≠ l := fun z => by rw [z, hl] at h; cases h
    exact .inl (.inl (by rw [del_ne n]; exact h))
  · have n : a ≠ l := fun z => by rw [z, hl] at h; cases h
    exact .inl (.inr ⟨o, by rw [del_ne n]; exact h⟩)
  · exact .inr h
mutual
theorem dp_off {K : PySem.W.Frag} {H : Hp} {l : Addr} {ys : List V} (hl : H l = some (.lst ys)) : ∀ {v : V} {d : PyData}, noL d = true → Dp K H v d → Dp K (del H l) v d
  | _, _, _, .non => .non
  | _, _, _, .bl b => .bl b
  | _, _, _, .int i => .int i
  | _, _, _, .str x => .str x
  | _, _, n, .lst h a => nomatch n
  | _, _, n, .tup h a => .tup (seqT_off h hl) (dpAll_off hl n a)
theorem dpAll_off {K : PySem.W.Frag} {H : Hp} {l : Addr} {ys : List V} (hl : H l = some (.lst ys)) : ∀ {vs : List V} {ds : List PyData}, noLs ds = true → DpAll K H vs ds → DpAll K (del H l) vs ds
  | _, _, _, .nil => .nil
  | _, _, n, .cons a b => .cons (dp_off hl (Bool.and_eq_true_iff.mp n).1 a) (dpAll_off hl (Bool.and_eq_true_iff.mp n).2 b)
end
theorem same_off {H H' : Hp} {p : Addr} (e : Same H H') (h : H p = none) : Same H (del H' p) := fun b o q => by
  rw [del_ne (ne_of_none q h)]; exact e b o q
theorem dpAll_app {K : PySem.W.Frag} {H : Hp} : ∀ {vs : List V} {ds : List PyData} {v : V} {d : PyData}, DpAll K H vs ds → Dp K H v d → DpAll K H (vs ++ [v]) (ds ++ [d])
  | _, _, _, _, .nil, h => .cons h .nil
  | _, _, _, _, .cons a b, h => .cons a (dpAll_app b h)
theorem dp_ints {K : PySem.W.Frag} {H : Hp} : ∀ ws : List Int, DpAll K H (iV ws) (ws.map .int)
  | [] => .nil
  | w :: r => .cons (.int w) (dp_ints r)
theorem iV_take (ws : List Int) (n : Nat) : (iV ws).take n = iV (ws.take n) := by unfold iV; rw [List.map_take]
theorem iV_drop (ws : List Int) (n : Nat) : (iV ws).drop n = iV (ws.drop n) := by unfold iV; rw [List.map_drop]
end Lk

set_option Elab.async false
set_option linter.all false
set_option maxRecDepth 100000
set_option maxHeartbeats 4000000
namespace Lk
open PySem PySem.Spec PyProof.Rows L2
/-! ### enumerate of a tuple -/
def itO (t : Addr) : Obj := { cls := .type "tuple_iterator", data := .fields #[.ref t, .int 0 0] }
def enO (n : Addr) : Obj := { cls := .type "enumerate", data := .fields #[.none, .bool false, .ref n, rawInt 0, .none, .none] }
set_option maxHeartbeats 2000000 in
theorem meets_enumT (t : Addr) (items : Array Value) :
    Meets (Builtin.«enumerate.__new__» ⟨[.type "enumerate", .ref t], []⟩) (fun _ R s => s.heap.IsTuple t items ∧ R (.ok (.ret (.ref (s.heap.push (itO t)).objs.size))) { s with heap := (s.heap.push (itO t)).push (enO s.heap.objs.size) }) :=
  .of_wp fun prog w A R s h => by
    obtain ⟨hp, g, d, tk, os⟩ := s
    obtain ⟨ht, h⟩ := h
    have kind := sub_enumerate
    have go : ∀ {A' : Around} {E : Value → Shared → Prop} {Q : Value → Shared → Prop}, Q (.ref hp.objs.size) ⟨hp.push (itO t), g, d, tk, os⟩ → wpAny (model prog w) A' (pyIter (.ref t)) Q E ⟨hp, g, d, tk, os⟩ :=
      fun q => (begins_tuple t items).iter prog w _ _ ⟨hp, g, d, tk, os⟩ _ ht q
    wp_walk using go
    refine wpAny_stack_any fun st => wpAny_pure ?_
    split
    · rename_i c _ _ _ _ _
      cases (c == Value.type "enumerate")
      all_goals
        wp_walk using go
        exact ⟨_, rfl, h⟩
    · wp_walk using go
      exact ⟨_, rfl, h⟩
theorem call_enumT {prog : Program} {w : World} {A : Around} {E : Value → Shared → Prop} {s : Shared} {t : Addr} {items : Array Value} {Q : Value → Shared → Prop} (ht : s.heap.IsTuple t items)
    (h : ∀ h', IsEnum h' (s.heap.objs.size + 1) s.heap.objs.size 0 .none → h'.get? s.heap.objs.size = some (itO t) → (∀ b o, s.heap.get? b = some o → h'.get? b = some o) → Q (.ref (s.heap.objs.size + 1)) { s with heap := h' }) :
    wpAny (model prog w) A (call (.type "enumerate") [.ref t]) Q E s := by
  refine callType_new F.called_enumerate (by decide) (F.typeCall_enumerate_1 _) (F.newCall_enumerate_1 _) (fun obj => F.args_object_init_2 obj _) F.entry_enumerate_new (meets_enumT t items) ⟨ht, ?_⟩
  have z : (s.heap.push (itO t)).objs.size = s.heap.objs.size + 1 := Heap.size_push ..
  have e : IsEnum ((s.heap.push (itO t)).push (enO s.heap.objs.size)) (s.heap.objs.size + 1) s.heap.objs.size 0 .none := by
    have y := Heap.get?_push_size (s.heap.push (itO t)) (o := enO s.heap.objs.size) rfl
    rw [z] at y
    exact y
  show _ ∧ _
  rw [z]
  exact ⟨⟨_, e, rfl⟩, h _ e (Heap.get?_push_of_some _ (Heap.get?_push_size _ rfl)) fun b o x => Heap.get?_push_of_some _ (Heap.get?_push_of_some _ x)⟩
def IteT (K : PySem.W.Frag) (a : Addr) : It :=
  ⟨fun i H => ∃ (xs : List V) (x : V), SqT K H a xs ∧ xs[i]? = some x, fun i H v H' => ∃ T x, v = .ref T ∧ H T = none ∧ H' = upd H T (.tup [.int (i : Nat), x]) ∧ ∀ xs, SqT K H a xs → xs[i]? = some x, fun i H => ∃ xs : List V, SqT K H a xs ∧ xs.length ≤ i⟩
theorem turn_enumT {P : Program} {w : World} {K : PySem.W.Frag} {elts : List Expr} {kk : Nat} {tpos : Pos} (a e it : Addr) :
    Turn P w K (.Tuple elts kk tpos) (IteT K a) [e, it] e (fun i h => (∃ old, IsEnum h e it ((i : Nat) : Int) old) ∧ h.IsTupleIter it a i ∧ e ≠ it) where
  mem := by simp
  obj := fun i h st b hb => by
    obtain ⟨⟨old, he⟩, ⟨o, ho, hc, hd⟩, _⟩ := st
    rcases (by simpa using hb : b = e ∨ b = it) with z | z
    · rw [z]; exact ⟨_, he, fun v q => nomatch q⟩
    · rw [z]; exact ⟨o, ho, fun v q => by rw [hd] at q; cases q⟩
  keep := fun i h h' st k => let ⟨⟨old, he⟩, hi, hne⟩ := st; ⟨⟨old, k e (by simp) _ he⟩, hi.at fun o q => k it (by simp) o q, hne⟩
  item := by
    rintro X rfl rfl rfl hc i pins s σ H E I hf ⟨⟨old, he⟩, hit, hne⟩ ⟨xs, x, hq, hx⟩
    obtain ⟨its, rv, p, hz⟩ := I.tuple hq
    obtain ⟨u, hu, ru⟩ := rv.get hx
    have hel : e < s.heap.objs.size := Heap.lt_size he
    have hil : it < s.heap.objs.size := by obtain ⟨_, q, _⟩ := hit; exact Heap.lt_size q
    have nea : e ≠ a := fun z => by
      obtain ⟨o, ho, c1, _⟩ := p
      rw [← z, he] at ho
      cases ho
      exact absurd (Value.type.inj c1) (by decide)
    have nia : a ≠ it := fun z => by
      obtain ⟨o, ho, c1, _⟩ := p
      obtain ⟨o2, ho2, c2, _⟩ := hit
      rw [z, ho2] at ho
      cases ho
      rw [c1] at c2
      exact absurd (Value.type.inj c2) (by decide)
    have lt : i < its.toArray.size := by rw [List.size_toArray]; exact (List.getElem?_eq_some_iff.mp hu).1
    refine wpAny_pyNext_enum_itemD (Draws.tuple (A := X.A.in1) (I.ok.hd hc) it a nia its.toArray) he ⟨hit, p⟩ lt hne (by simp [hne, nea]) fun y h' tk hP ho hs hT hsz hk => ?_
    obtain ⟨hit', p'⟩ := hs
    obtain rfl : u = y := by
      have z : its[i]? = some y := by simpa using hP
      rw [hu] at z
      exact Option.some.inj z
    refine ⟨_, rfl, wpAny_letOwnedTupleGo_enum (s := { s with heap := h', toks := tk + 1 }) ho fun h'' he' sb => ?_⟩
    have hT2 : h''.get? s.heap.objs.size = some { cls := .type "tuple", data := .seq #[.int i tk, u] } := (sb.2 _ (Nat.ne_of_gt hel)).trans hT
    have new : ObjOk X.prog X.w (upd H s.heap.objs.size (.tup [.int (i : Nat), x])) h'' s.heap.objs.size (.tup [.int (i : Nat), x]) :=
      ⟨by show 2 ≤ sizeLine; decide, [.int i tk, u], .cons ⟨_, rfl⟩ (.cons ru .nil), ⟨_, hT2, rfl, _, rfl⟩⟩
    have I1 : Inv X pins σ (upd H s.heap.objs.size (.tup [.int (i : Nat), x])) { s with heap := h'', toks := tk + 1 } :=
      I.turnedNew (ch := [e, it]) (fun b ob hb q => (sb.2 b (fun z => hb (by simp [z]))).trans (hk b ob (fun z => hb (by simp [z])) (fun z => hb (by simp [z])) q)) hf (Nat.le_refl _) new
    refine ⟨.ref s.heap.objs.size, _, I1, rfl, ⟨_, x, rfl, I.hok.fresh (Nat.le_refl _), rfl, fun ys hy => by rw [I.tuple_inj hy hq]; exact hx⟩, ⟨⟨u, ?_⟩, hit'.at fun o q => (sb.2 it (Ne.symm hne)).trans q, hne⟩, fun b hb => ?_⟩
    · rw [show ((i + 1 : Nat) : Int) = (i : Int) + 1 by omega]; exact he'
    · have hb' : b < s.heap.objs.size := by
        rcases (by simpa using hb : b = e ∨ b = it) with z | z
        · rw [z]; exact hel
        · rw [z]; exact hil
      rw [upd_ne (Nat.ne_of_lt hb')]
      exact (hf b hb).1
  done := by
    rintro X rfl rfl rfl hc i pins s σ H E I hf ⟨⟨old, he⟩, hit, hne⟩ ⟨xs, hq, hx⟩
    obtain ⟨its, rv, p, hz⟩ := I.tuple hq
    obtain ⟨f0, f1, f2, f3, f4, f5⟩ := hf it (by simp)
    have nia : a ≠ it := fun z => by
      obtain ⟨o, ho, c1, _⟩ := p
      obtain ⟨o2, ho2, c2, _⟩ := hit
      rw [z, ho2] at ho
      cases ho
      rw [c1] at c2
      exact absurd (Value.type.inj c2) (by decide)
    have no : its.toArray[i]? = none := by
      rw [List.getElem?_toArray, List.getElem?_eq_none_iff, ← rv.length]
      exact hx
    have D : Draws X.prog X.w X.A.in1 it [it, a] 0 (fun _ _ => True) (fun _ h => h.IsTupleIter it a i ∧ h.IsTuple a its.toArray) :=
      ⟨fun _ _ st => let ⟨o, ho, _⟩ := st.1; ⟨o, ho⟩, fun _ _ _ st hk => ⟨st.1.at fun o e => hk it (by simp) o e, st.2.at fun o e => hk a (by simp) o e⟩, fun j _ _ _ h => absurd h (Nat.not_lt_zero _),
        fun s Q E st hE => wpAny_nextOf_tuple_end (A := X.A.in1) (I.ok.hd hc) st.1 st.2 no hE⟩
    exact wpAny_pyNext_enum_endD D he ⟨hit, p⟩ fun h' eb => ⟨rfl, I.turned (t' := s.toks) (fun b o hb q => eb b o hb q) f0 f1 f3 f4 f5⟩
  self := fun A i s Q E st h => let ⟨⟨_, he⟩, _⟩ := st; wpAny_pyIter_enum he h
def iEnumT (K : PySem.W.Frag) (ta : TA) : TI := fun σ H R => ta σ H fun vs H1 => ∃ a xs, vs = [.ref a] ∧ SqT K H1 a xs ∧ R (IteT K a) H1
theorem pi_enumT {X : Cx} {e : Expr} {ta : TA} {p pos tpos : Pos} {elts : List Expr} {kk : Nat} (hg : Gl X "enumerate") (hm : X.mg "enumerate" = none) (ha : PA X [e] ta) (hs : starEach [e] X.env = [(false, eval e X.env)] := by rfl) :
    PI X (.Tuple elts kk tpos) (.Call (.Name "enumerate" p) [e] [] pos) (iEnumT X.K ta) := by
  refine ⟨fun pins s σ H R I h => Call_ (ld_blt I hg hm boot_enumerate (PyProof.Rows.callWith_type1 (thn (ha.run pos pins s σ H _ I h) fun us s1 ⟨vs, H1, I1, r1, a, xs, ex, hq, q⟩ => ?_) hs rfl))⟩
  subst ex
  obtain ⟨its, rv, pt, hz⟩ := I1.tuple hq
  rw [Vals.ref1 r1]
  refine call_enumT pt fun h' he hi hk => wpAny_pyIter_enum he ?_
  have I2 : Inv X pins σ H1 { s1 with heap := h' } := I1.kept (t' := s1.toks) hk
  refine ⟨s1.heap.objs.size + 1, [s1.heap.objs.size + 1, s1.heap.objs.size], _, _, H1, rfl, I2, turn_enumT a (s1.heap.objs.size + 1) s1.heap.objs.size, ⟨⟨.none, he⟩, ⟨_, hi, rfl, rfl⟩, Nat.succ_ne_self _⟩, fun b hb => ?_, q⟩
  have le : s1.heap.objs.size ≤ b := by
    rcases (by simpa using hb : b = s1.heap.objs.size + 1 ∨ b = s1.heap.objs.size) with z | z
    · rw [z]; exact Nat.le_add_right _ _
    · rw [z]; exact Nat.le_refl _
  exact I1.fpOk le (I1.hok.fresh le)
theorem walk_enumT {K : PySem.W.Frag} {a : Addr} {xs : List V} : Walk (IteT K a) xs.length (fun H => SqT K H a xs) (YPair (fun i => some (.int (i : Nat))) (fun i => xs[i]?)) := by
  refine ⟨fun i _ hi q => ⟨xs, xs[i], q, by simp [hi]⟩, fun _ q => ⟨xs, q, Nat.le_refl _⟩, fun i H v H' _ q y => ?_⟩
  obtain ⟨T, x, h1, h2, h3, h4⟩ := y
  exact ⟨T, .int (i : Nat), x, h1, h2, h3, rfl, h4 xs q⟩
end Lk

set_option Elab.async false
set_option linter.all false
set_option maxRecDepth 100000
namespace Lk
open PySem PySem.Spec PyProof.Rows L2
section
variable {X : Cx}
theorem strs_of : ∀ {ss : List Str} {us : List Value}, Vals (ss.map V.str) us → StrsAre us ss
  | [], _, h => by cases h; exact .nil
  | s :: ss, _, h => by
    cases h with
    | cons a t =>
      obtain ⟨k, rfl⟩ := a
      exact .cons s k (strs_of t)
def rTIndex (K : PySem.W.Frag) : V → List V → Hp → VK → Prop := fun x xs H Q => ∃ (a : Addr) (ss : List Str) (k : Str), x = .ref a ∧ xs = [.str k] ∧ SqT K H a (ss.map V.str) ∧ k ∈ ss ∧ Q (.int (ss.idxOf k : Nat)) H
theorem mt_tindex : MtR X "tuple.index" (rTIndex X.K) := by
  intro pins s σ H x xs v us Q I rx rxs h
  obtain ⟨a, ss, k, rfl, rfl, hs, hk, q⟩ := h
  cases rx
  cases rxs with
  | cons ry rt =>
    cases rt
    obtain ⟨t, rfl⟩ := ry
    obtain ⟨its, rv, pl, hz⟩ := I.tuple hs
    exact SeqAt.tuple_index_strs pl (strs_of rv) hk ⟨.int (ss.idxOf k : Nat), H, I.tok _, ⟨_, rfl⟩, q⟩
end
end Lk

set_option Elab.async false
set_option linter.all false
set_option maxRecDepth 100000
set_option maxHeartbeats 4000000
namespace Lk
open PySem PySem.Spec PyProof.Rows L2 HT
/-! ### t[::-1] of a tuple: some of its items, no more than it has -/
section
variable {prog : Program} {w : World} {A : Around} {E : Value → Shared → Prop} {s : Shared}
theorem applied_rev {sl : Addr} {vl vu vs : Value} {n : Nat} {Q : Int × Int × Nat → Shared → Prop} (hs : s.heap.IsSliceOf sl vl vu vs) (pl : IsPart vl none) (pu : IsPart vu none) (ps : IsPart vs (some (-1)))
    (h : Q ((n : Int) - 1, -1, n) s) : wpAny (model prog w) A (Builtin.Slice.sliceApplied (.ref sl) (pure (n : Int))) Q E s := by
  obtain ⟨ob, h1, h2, h3⟩ := id hs
  unfold Builtin.Slice.sliceApplied Builtin.Slice.sliceFields
  refine wpAny_bind (wpAny_bind (wpAny_field h1 h3 (x := vl) rfl (wpAny_bind (wpAny_field h1 h3 (x := vu) rfl (wpAny_bind (wpAny_field h1 h3 (x := vs) rfl (wpAny_pure ?_)))))))
  refine wpAny_bind (slicePart_ ps ?_)
  show wpAny _ _ (if ((-1 : Int) == 0) = true then _ else _) _ _ s
  rw [if_neg (by decide)]
  refine wpAny_bind (slicePart_ pl (wpAny_bind (slicePart_ pu (wpAny_bind (wpAny_pure ?_)))))
  show wpAny _ _ (match Builtin.Slice.sliceAdjust none none (-1) (n : Int) with | (lo, hi) => pure (lo, (-1 : Int), Builtin.Slice.slicePlaces lo hi (-1))) _ _ s
  have e : Builtin.Slice.sliceAdjust none none (-1) (n : Int) = ((n : Int) - 1, -1) := by
    unfold Builtin.Slice.sliceAdjust
    simp
  rw [e]
  have e2 : Builtin.Slice.slicePlaces ((n : Int) - 1) (-1) (-1) = n := by
    unfold Builtin.Slice.slicePlaces
    rw [if_neg (show ¬ ((-1 : Int) > 0) by decide)]
    by_cases c : (n : Int) - 1 > -1
    · rw [if_pos c]
      have : ((n : Int) - 1 - -1 - 1) / (- -1) = (n : Int) - 1 := by
        rw [show (- -1 : Int) = 1 by decide, Int.ediv_one]; omega
      rw [this]; omega
    · rw [if_neg c]; omega
  show wpAny _ _ (pure ((n : Int) - 1, (-1 : Int), Builtin.Slice.slicePlaces ((n : Int) - 1) (-1) (-1))) _ _ s
  rw [e2]
  exact wpAny_pure h
def revPick (items : Array Value) : Array Value := ((List.range items.size).filterMap fun (m : Nat) => items[(((items.size : Int) - 1) + (m : Int) * (-1)).toNat]?).toArray
theorem revPick_size (items : Array Value) : (revPick items).size ≤ items.size := by
  unfold revPick
  rw [List.size_toArray]
  exact Nat.le_trans (List.length_filterMap_le _ _) (by rw [List.length_range]; exact Nat.le_refl _)
theorem getItem_tuple_rev {t sl : Addr} {items : Array Value} {vl vu vs : Value} {Q : Value → Shared → Prop} (ht : IsTup s.heap t items) (hs : s.heap.IsSliceOf sl vl vu vs) (pl : IsPart vl none) (pu : IsPart vu none) (ps : IsPart vs (some (-1)))
    (h : Q (.ref s.heap.objs.size) { s with heap := s.heap.push { cls := .type "tuple", data := .seq (revPick items) } }) (hsz : items.size ≤ sizeLine) : wpAny (model prog w) A (getItem (.ref t) (.ref sl)) Q E s := by
  have few : sizeOk (.seq (revPick items)) := Nat.le_trans (revPick_size items) hsz
  obtain ⟨ob, h1, h2, h3⟩ := id hs
  have hT : s.TypeIs (.ref sl) "slice" := ⟨ob, h1, h2⟩
  unfold getItem
  try with_reducible refine wpAny_holding ?_
  first | refine wpAny_bind (wpAny_pure ?_) | skip
  refine wpAny_bind (wpAny_sequenceKey ht.typeIs (by decide) (wpAny_bind (wpAny_callSpecial?_slot (name := Str.ofString "__getitem__") ht.typeIs PyProof.Rows.slot_tuple_getitem (wpAny_call_entry PyProof.Rows.slot_tuple_getitem ht.typeIs entry_tuple_getitem ?_ (args_tuple_getitem _ _)))))
  show wpAny _ _ (Builtin.Tuple.tupleItemsOf (.ref t) >>= _) _ _ s
  refine wpAny_bind (tupleItemsOf_ ht (wpAny_bind (wpAny_typeOf hT ?_)))
  rw [if_pos (by decide)]
  refine wpAny_bind (applied_rev hs pl pu ps ?_)
  have no : ¬ ((((items.size : Int) - 1) == 0 && (-1 : Int) == 1 && items.size == items.size) = true) := by
    rw [show ((-1 : Int) == 1) = false by decide, Bool.and_false, Bool.false_and]
    exact Bool.false_ne_true
  show wpAny _ _ (if (((items.size : Int) - 1) == 0 && (-1 : Int) == 1 && items.size == items.size) = true then _ else _) _ _ s
  rw [if_neg no]
  first
    | exact wpAny_bind (m := Builtin.Tuple.tupleExact _) (wpAny_newObj_type (wpAny_pure ⟨_, rfl, wpAny_pure h⟩) few)
    | exact wpAny_bind (m := Builtin.Tuple.tupleExact _) (wpAny_newObj_type (wpAny_bind (wpAny_pure (wpAny_pure ⟨_, rfl, wpAny_pure h⟩))) few)
    | exact wpAny_bind (wpAny_bind (m := Builtin.Tuple.tupleExact _) (wpAny_newObj_type (wpAny_pure (wpAny_pure ⟨_, rfl, wpAny_pure h⟩)) few))
    | exact wpAny_bind (wpAny_bind (m := Builtin.Tuple.tupleExact _) (wpAny_newObj_type (wpAny_pure ⟨_, rfl, wpAny_pure h⟩) few))
end
theorem vals_pick {xs : List V} {us : List Value} (r : Vals xs us) (f : Nat → Nat) : ∀ is : List Nat, Vals (is.filterMap fun m => xs[f m]?) (is.filterMap fun m => us[f m]?)
  | [] => .nil
  | i :: is => by
    have t := vals_pick r f is
    cases e : xs[f i]? with
    | none =>
      have e2 : us[f i]? = none := by
        rw [List.getElem?_eq_none_iff] at e ⊢
        rw [← r.length]; exact e
      simp only [List.filterMap_cons, e, e2]
      exact t
    | some x =>
      obtain ⟨u, e2, ru⟩ := r.get e
      simp only [List.filterMap_cons, e, e2]
      exact .cons ru t
theorem range_all {α : Type} : ∀ l : List α, (List.range l.length).filterMap (fun m => l[m]?) = l
  | [] => rfl
  | a :: r => by
    have i := range_all r
    rw [List.length_cons, List.range_succ_eq_map, List.filterMap_cons]
    simp only [List.getElem?_cons_zero, List.filterMap_map, Function.comp_def, List.getElem?_cons_succ]
    rw [i]
theorem fm_congr {α β : Type} {f g : α → Option β} : ∀ {l : List α}, (∀ m ∈ l, f m = g m) → l.filterMap f = l.filterMap g
  | [], _ => rfl
  | a :: r, h => by
    rw [List.filterMap_cons, List.filterMap_cons, h a List.mem_cons_self, fm_congr fun m hm => h m (List.mem_cons_of_mem _ hm)]
theorem pick_reverse {α : Type} (l : List α) : ((List.range l.length).filterMap fun (m : Nat) => l[(((l.length : Int) - 1) + (m : Int) * (-1)).toNat]?) = l.reverse := by
  have h := range_all l.reverse
  rw [List.length_reverse] at h
  refine Eq.trans (fm_congr fun m hm => ?_) h
  have hm' := List.mem_range.mp hm
  rw [List.getElem?_reverse hm']
  congr 1
  omega
def tRevT (K : PySem.W.Frag) (te : TE) : TE := fun σ H Q => te σ H fun x H1 => ∃ a xs, x = .ref a ∧ SqT K H1 a xs ∧ ∀ p, H1 p = none → Q (.ref p) (upd H1 p (.tup xs.reverse))
theorem pe_revT {X : Cx} {e : Expr} {te : TE} {k : Nat} {p1 p2 p3 pos : Pos} (he : PE X e te) : PE X (.Subscript e (.Slice none none (some (.UnaryOp .USub (.Constant (.int 1) k p1) p2)) p3) pos) (tRevT X.K te) := by
  refine ⟨fun pins s σ H Q I h => Subscript_ (thn (he.run pins s σ H _ I h) fun v s1 ⟨x, H1, I1, r1, a, xs, ex, hx, q⟩ => ?_)⟩
  subst ex
  cases r1
  have hst : PO X (some (.UnaryOp .USub (.Constant (.int 1) k p1) p2)) (tPart (tUn (rU fun i => .int (-i)) (tC (.int 1)))) := po_some (pe_un un_neg pe_int)
  refine wpAny_Slice (thn (po_none.run pins s1 σ H1 (fun o G => o = none ∧ G = H1) I1 ⟨rfl, rfl⟩) fun vl s2 ⟨l, H2, I2, pl, el, e2⟩ => ?_)
  subst el e2
  refine thn (po_none.run pins s2 σ H2 (fun o G => o = none ∧ G = H2) I2 ⟨rfl, rfl⟩) fun vu s3 ⟨u, H3, I3, pu, eu, e3⟩ => ?_
  subst eu e3
  refine thn (hst.run pins s3 σ H3 (fun o G => o = some (-1) ∧ G = H3) I3 ⟨1, rfl, -1, rfl, rfl, rfl⟩) fun vs s4 ⟨o, H4, I4, ps, eo, e4⟩ => ?_
  subst eo e4
  have I5 : Inv X pins σ H4 { s4 with heap := s4.heap.push { cls := .type "slice", data := .fields #[vl, vu, vs] } } := I4.kept (t' := s4.toks) fun b ob q => Heap.get?_push_of_some _ q
  obtain ⟨its, r, ht, hz⟩ := I5.tuple hx
  show wpAny (model X.prog X.w) X.A (subscriptTail e (.Slice none none (some (.UnaryOp .USub (.Constant (.int 1) k p1) p2)) p3) (.ref a) (.ref s4.heap.objs.size)) (EP X pins σ Q) X.xe { s4 with heap := s4.heap.push { cls := .type "slice", data := .fields #[vl, vu, vs] } }
  refine tail_any (ops := [.ref a, .ref s4.heap.objs.size]) ht.typeIs (PyProof.Rows.slot_tuple_getitem.lookup) ?_ (by with_unfolding_all rfl)
  have hlen := r.length
  refine getItem_tuple_rev ht (Heap.IsSliceOf.new _ vl vu vs) pl pu ps ?_ (by rw [List.size_toArray, ← hlen]; exact hz)
  have rv := vals_pick r (fun m => (((its.toArray.size : Int) - 1) + (m : Int) * (-1)).toNat) (List.range its.toArray.size)
  have ep : revPick its.toArray = ((List.range its.toArray.size).filterMap fun (m : Nat) => its[(((its.toArray.size : Int) - 1) + (m : Int) * (-1)).toNat]?).toArray := by
    unfold revPick
    congr 1
    refine congrArg (fun f => List.filterMap f _) (funext fun m => ?_)
    simp
  rw [ep]
  have lz : xs.reverse.length ≤ sizeLine := by rw [List.length_reverse]; exact hz
  have rv2 : Vals xs.reverse ((List.range its.toArray.size).filterMap fun (m : Nat) => its[(((its.toArray.size : Int) - 1) + (m : Int) * (-1)).toNat]?) := by
    have e := pick_reverse xs
    rw [List.size_toArray] at rv ⊢
    rw [← hlen] at rv ⊢
    rw [e] at rv
    exact rv
  refine ⟨.ref _, _, I5.laid (t' := s4.toks) (o := .tup xs.reverse) (fun b ob q => Heap.get?_push_of_some _ q) (Nat.le_refl _) ⟨lz, _, rv2, IsTup.new _ _⟩, rfl, q _ (I5.hok.fresh (Nat.le_refl _))⟩
end Lk

set_option Elab.async false
set_option linter.all false
set_option maxRecDepth 100000
set_option maxHeartbeats 4000000
namespace Lk
open PySem PySem.Spec PyProof.Rows L2
/-! ### displays: what they come to, as data -/
def EvD (K : PySem.W.Frag) (σ : L2.St) (H0 : Hp) (t : TE) (d : PyData) : Prop := ∀ (H : Hp) (Q : VK), Same H0 H → (∀ x H', Same H H' → Dp K H' x d → Q x H') → t σ H Q
def EvA (K : PySem.W.Frag) (σ : L2.St) (H0 : Hp) (t : TA) (ds : List PyData) : Prop := ∀ (H : Hp) (Q : List V → Hp → Prop), Same H0 H → (∀ xs H', Same H H' → DpAll K H' xs ds → Q xs H') → t σ H Q
section
variable {K : PySem.W.Frag} {σ : L2.St} {H0 : Hp}
theorem ev_int {i : Int} : EvD K σ H0 (tC (.int i)) (.int i) := fun _ _ _ k => k _ _ (Same.refl _) (.int i)
theorem ev_str {s : Str} : EvD K σ H0 (tC (.str s)) (.str s) := fun _ _ _ k => k _ _ (Same.refl _) (.str s)
theorem ev_bl {b : Bool} : EvD K σ H0 (tC (.bl b)) (.bool b) := fun _ _ _ k => k _ _ (Same.refl _) (.bl b)
theorem ev_non : EvD K σ H0 (tC .non) .none := fun _ _ _ k => k _ _ (Same.refl _) .non
theorem ev_neg {i : Int} : EvD K σ H0 (tUn (rU fun i => .int (-i)) (tC (.int i))) (.int (-i)) := fun _ _ _ k => ⟨i, rfl, k _ _ (Same.refl _) (.int (-i))⟩
theorem ev_var {i : Nat} {x : V} {d : PyData} (h : σ[i]? = some (some x)) (hd : Dp K H0 x d) : EvD K σ H0 (tVar i) d := fun _ _ e k => ⟨x, h, k x _ (Same.refl _) (dp_same e hd)⟩
theorem ea_nil : EvA K σ H0 tNil [] := fun _ _ _ k => k _ _ (Same.refl _) .nil
theorem ea_cons {t : TE} {ts : TA} {d : PyData} {ds : List PyData} (a : EvD K σ H0 t d) (b : EvA K σ H0 ts ds) : EvA K σ H0 (tCons t ts) (d :: ds) := fun H Q e k =>
  a H _ e fun x H1 e1 h1 => b H1 _ (e.trans e1) fun xs H2 e2 h2 => k (x :: xs) H2 (e1.trans e2) (.cons (dp_same e2 h1) h2)
theorem ev_tup {ts : TA} {ds : List PyData} (a : EvA K σ H0 ts ds) (n : ds.length ≤ 1000) : EvD K σ H0 (tTup ts) (.tuple ds) := fun H Q e k =>
  a H _ e fun xs H1 e1 h1 => ⟨by rw [dp_len h1]; exact Nat.le_of_lt (szl (by omega)), fun p hp => k _ _ (e1.trans (same_new hp _)) (.tup (SqT.of upd_same) (dpAll_same (same_new hp _) h1))⟩
theorem ev_lst {ts : TA} {ds : List PyData} (a : EvA K σ H0 ts ds) (n : ds.length ≤ 1000) : EvD K σ H0 (tLst ts) (.list ds) := fun H Q e k =>
  a H _ e fun xs H1 e1 h1 => ⟨by rw [dp_len h1]; exact Nat.le_of_lt (szl (by omega)), fun p hp => k _ _ (e1.trans (same_new hp _)) (.lst (SqL.of upd_same) (dpAll_same (same_new hp _) h1))⟩
theorem tup_of {H : Hp} {x : V} {ds : List PyData} (h : Dp K H x (.tuple ds)) : ∃ (a : Addr) (xs : List V), x = .ref a ∧ SqT K H a xs ∧ DpAll K H xs ds := by
  cases h with
  | tup h a => exact ⟨_, _, rfl, h, a⟩
theorem lst_of {H : Hp} {x : V} {ds : List PyData} (h : Dp K H x (.list ds)) : ∃ (a : Addr) (xs : List V), x = .ref a ∧ SqL K H a xs ∧ DpAll K H xs ds := by
  cases h with
  | lst h a => exact ⟨_, _, rfl, h, a⟩
theorem dpAll_cat {H : Hp} : ∀ {xs ys : List V} {ds es : List PyData}, DpAll K H xs ds → DpAll K H ys es → DpAll K H (xs ++ ys) (ds ++ es)
  | _, _, _, _, .nil, h => h
  | _, _, _, _, .cons a b, h => .cons a (dpAll_cat b h)
theorem ev_cat {ta tb : TE} {ds es : List PyData} (a : EvD K σ H0 ta (.tuple ds)) (b : EvD K σ H0 tb (.tuple es)) (n : ds.length ≤ 1000) (m : es.length ≤ 1000) : EvD K σ H0 (tOp (rCatS K) ta tb) (.tuple (ds ++ es)) := fun H Q e k =>
  a H _ e fun x H1 e1 h1 => b H1 _ (e.trans e1) fun y H2 e2 h2 => by
    obtain ⟨p, xs, rfl, hp, hx⟩ := tup_of (dp_same e2 h1)
    obtain ⟨q, ys, rfl, hq, hy⟩ := tup_of h2
    refine ⟨p, q, xs, ys, rfl, rfl, hp, hq, by rw [dp_len hx, dp_len hy]; exact Nat.le_of_lt (szl (by omega)), fun r H3 e3 h3 => ?_⟩
    exact k _ _ ((e1.trans e2).trans e3) (.tup h3 (dpAll_cat (dpAll_same e3 hx) (dpAll_same e3 hy)))
theorem dpAll_drop {H : Hp} : ∀ {xs : List V} {ds : List PyData} (n : Nat), DpAll K H xs ds → DpAll K H (xs.drop n) (ds.drop n)
  | _, _, 0, h => h
  | _, _, n + 1, .nil => .nil
  | _, _, n + 1, .cons a b => dpAll_drop n b
theorem dpAll_takes {H : Hp} : ∀ {xs : List V} {ds : List PyData} (n : Nat), DpAll K H xs ds → DpAll K H (xs.take n) (ds.take n)
  | _, _, 0, h => .nil
  | _, _, n + 1, .nil => .nil
  | _, _, n + 1, .cons a b => .cons a (dpAll_takes n b)
theorem dpAll_reverse {H : Hp} : ∀ {xs : List V} {ds : List PyData}, DpAll K H xs ds → DpAll K H xs.reverse ds.reverse
  | _, _, .nil => .nil
  | x :: xs, d :: ds, .cons a b => by
    rw [List.reverse_cons, List.reverse_cons]
    exact dpAll_app (dpAll_reverse b) a
theorem ev_rev {ta : TE} {ds : List PyData} (a : EvD K σ H0 ta (.tuple ds)) : EvD K σ H0 (tRevT K ta) (.tuple ds.reverse) := fun H Q e k =>
  a H _ e fun x H1 e1 h1 => by
    obtain ⟨p, xs, rfl, hp, hx⟩ := tup_of h1
    refine ⟨p, xs, rfl, hp, fun q hq => ?_⟩
    exact k _ _ (e1.trans (same_new hq _)) (.tup (SqT.of upd_same) (dpAll_same (same_new hq _) (dpAll_reverse hx)))
theorem ev_list {ta : TE} {ds : List PyData} (a : EvD K σ H0 ta (.tuple ds)) : EvD K σ H0 (tCB (fun xs H Q => ∃ p ys, xs = [V.ref p] ∧ (SqL K H p ys ∨ SqT K H p ys) ∧ ∀ l, H l = none → Q (.ref l) (upd H l (.lst ys))) (tCons ta tNil)) (.list ds) := fun H Q e k =>
  a H _ e fun x H1 e1 h1 => by
    obtain ⟨p, xs, rfl, hp, hx⟩ := tup_of h1
    refine ⟨p, xs, rfl, .inr hp, fun q hq => ?_⟩
    exact k _ _ (e1.trans (same_new hq _)) (.lst (SqL.of upd_same) (dpAll_same (same_new hq _) hx))
theorem ev_cut {ta : TE} {ds : List PyData} (a : EvD K σ H0 ta (.tuple ds)) : EvD K σ H0 (tSl (rSlS K) ta (tPart (tUn (rU fun i => .int (-i)) (tC (.int 1)))) tNoPart) (.tuple ((ds.drop (HT.sIx ds.length 0 (some (-1)))).take (HT.sIx ds.length ds.length none - HT.sIx ds.length 0 (some (-1))))) := fun H Q e k =>
  a H _ e fun x H1 e1 h1 => by
    obtain ⟨p, xs, rfl, hp, hx⟩ := tup_of h1
    refine ⟨1, rfl, -1, rfl, p, xs, rfl, hp, fun q H2 e2 h2 => ?_⟩
    refine k _ _ (e1.trans e2) (.tup h2 ?_)
    unfold cutV
    rw [dp_len hx]
    exact dpAll_takes _ (dpAll_drop _ (dpAll_same e2 hx))
theorem ev_add {ta tb : TE} {i j : Int} (a : EvD K σ H0 ta (.int i)) (b : EvD K σ H0 tb (.int j)) : EvD K σ H0 (tOp (rI0 fun i j => .int (i + j)) ta tb) (.int (i + j)) := fun H Q e k =>
  a H _ e fun x H1 e1 h1 => b H1 _ (e.trans e1) fun y H2 e2 h2 => by
    cases h1; cases h2
    exact ⟨_, _, rfl, rfl, k _ _ (e1.trans e2) (.int _)⟩
theorem goS {t : TE} {rest : TS} {D : Ends} {i : Nat} {d : PyData} (e : EvD K σ H0 t d) (k : ∀ x H', Same H0 H' → Dp K H' x d → rest D (σ.set i (some x)) H') : tSeq (tAsg t (gName i)) rest D σ H0 := e H0 _ (Same.refl _) k
end
/-! ### the same, away from a list at l -/
def EvE (K : PySem.W.Frag) (l : Addr) (σ : L2.St) (H0 : Hp) (t : TE) (d : PyData) : Prop := ∀ (H : Hp) (Q : VK), Same H0 H → (∀ x H', Same H H' → Dp K (del H' l) x d → Q x H') → t σ H Q
def EaE (K : PySem.W.Frag) (l : Addr) (σ : L2.St) (H0 : Hp) (t : TA) (ds : List PyData) : Prop := ∀ (H : Hp) (Q : List V → Hp → Prop), Same H0 H → (∀ xs H', Same H H' → DpAll K (del H' l) xs ds → Q xs H') → t σ H Q
section
variable {K : PySem.W.Frag} {l : Addr} {σ : L2.St} {H0 : Hp}
theorem off_new {H H1 : Hp} {zs : List V} {p : Addr} {o : HO} (hl : H l = some (.lst zs)) (e : Same H H1) (hp : H1 p = none) : p ≠ l ∧ (del (upd H1 p o) l) p = some o := by
  have n : p ≠ l := fun z => by rw [z, e _ _ hl] at hp; cases hp
  exact ⟨n, by rw [del_ne n]; exact upd_same⟩
theorem ee_int {i : Int} : EvE K l σ H0 (tC (.int i)) (.int i) := fun _ _ _ k => k _ _ (Same.refl _) (.int i)
theorem ee_str {s : Str} : EvE K l σ H0 (tC (.str s)) (.str s) := fun _ _ _ k => k _ _ (Same.refl _) (.str s)
theorem ee_bl {b : Bool} : EvE K l σ H0 (tC (.bl b)) (.bool b) := fun _ _ _ k => k _ _ (Same.refl _) (.bl b)
theorem ee_non : EvE K l σ H0 (tC .non) .none := fun _ _ _ k => k _ _ (Same.refl _) .non
theorem ee_neg {i : Int} : EvE K l σ H0 (tUn (rU fun i => .int (-i)) (tC (.int i))) (.int (-i)) := fun _ _ _ k => ⟨i, rfl, k _ _ (Same.refl _) (.int (-i))⟩
theorem ee_var {i : Nat} {x : V} {d : PyData} (h : σ[i]? = some (some x)) (hd : Dp K (del H0 l) x d) : EvE K l σ H0 (tVar i) d := fun _ _ e k => ⟨x, h, k x _ (Same.refl _) (dp_same (same_del l e) hd)⟩
theorem eb_nil : EaE K l σ H0 tNil [] := fun _ _ _ k => k _ _ (Same.refl _) .nil
theorem eb_cons {t : TE} {ts : TA} {d : PyData} {ds : List PyData} (a : EvE K l σ H0 t d) (b : EaE K l σ H0 ts ds) : EaE K l σ H0 (tCons t ts) (d :: ds) := fun H Q e k =>
  a H _ e fun x H1 e1 h1 => b H1 _ (e.trans e1) fun xs H2 e2 h2 => k (x :: xs) H2 (e1.trans e2) (.cons (dp_same (same_del l e2) h1) h2)
theorem ee_tup {ts : TA} {ds : List PyData} {zs : List V} (hl : H0 l = some (.lst zs)) (a : EaE K l σ H0 ts ds) (n : ds.length ≤ 1000) : EvE K l σ H0 (tTup ts) (.tuple ds) := fun H Q e k =>
  a H _ e fun xs H1 e1 h1 => ⟨by rw [dp_len h1]; exact Nat.le_of_lt (szl (by omega)), fun p hp => k _ _ (e1.trans (same_new hp _)) (.tup (SqT.of (off_new hl (e.trans e1) hp).2) (dpAll_same (same_del l (same_new hp _)) h1))⟩
theorem ee_lst {ts : TA} {ds : List PyData} {zs : List V} (hl : H0 l = some (.lst zs)) (a : EaE K l σ H0 ts ds) (n : ds.length ≤ 1000) : EvE K l σ H0 (tLst ts) (.list ds) := fun H Q e k =>
  a H _ e fun xs H1 e1 h1 => ⟨by rw [dp_len h1]; exact Nat.le_of_lt (szl (by omega)), fun p hp => k _ _ (e1.trans (same_new hp _)) (.lst (SqL.of (off_new hl (e.trans e1) hp).2) (dpAll_same (same_del l (same_new hp _)) h1))⟩
theorem ee_cat {ta tb : TE} {ds es : List PyData} {zs : List V} (hl : H0 l = some (.lst zs)) (a : EvE K l σ H0 ta (.tuple ds)) (b : EvE K l σ H0 tb (.tuple es)) (n : ds.length ≤ 1000) (m : es.length ≤ 1000) : EvE K l σ H0 (tOp (rCatS K) ta tb) (.tuple (ds ++ es)) := fun H Q e k =>
  a H _ e fun x H1 e1 h1 => b H1 _ (e.trans e1) fun y H2 e2 h2 => by
    obtain ⟨p, xs, rfl, hp, hx⟩ := tup_of (dp_same (same_del l e2) h1)
    obtain ⟨q, ys, rfl, hq, hy⟩ := tup_of h2
    refine ⟨p, q, xs, ys, rfl, rfl, seqT_same (del_le _ l) hp, seqT_same (del_le _ l) hq, by rw [dp_len hx, dp_len hy]; exact Nat.le_of_lt (szl (by omega)), fun r H3 e3 h3 => ?_⟩
    exact k _ _ ((e1.trans e2).trans e3) (.tup (seqT_off h3 ((((e.trans e1).trans e2).trans e3) _ _ hl)) (dpAll_cat (dpAll_same (same_del l e3) hx) (dpAll_same (same_del l e3) hy)))
theorem ee_rev {ta : TE} {ds : List PyData} {zs : List V} (hl : H0 l = some (.lst zs)) (a : EvE K l σ H0 ta (.tuple ds)) : EvE K l σ H0 (tRevT K ta) (.tuple ds.reverse) := fun H Q e k =>
  a H _ e fun x H1 e1 h1 => by
    obtain ⟨p, xs, rfl, hp, hx⟩ := tup_of h1
    refine ⟨p, xs, rfl, seqT_same (del_le _ l) hp, fun q hq => ?_⟩
    exact k _ _ (e1.trans (same_new hq _)) (.tup (SqT.of (off_new hl (e.trans e1) hq).2) (dpAll_same (same_del l (same_new hq _)) (dpAll_reverse hx)))
theorem ee_list {ta : TE} {ds : List PyData} {zs : List V} (hl : H0 l = some (.lst zs)) (a : EvE K l σ H0 ta (.tuple ds)) : EvE K l σ H0 (tCB (fun xs H Q => ∃ p ys, xs = [V.ref p] ∧ (SqL K H p ys ∨ SqT K H p ys) ∧ ∀ l, H l = none → Q (.ref l) (upd H l (.lst ys))) (tCons ta tNil)) (.list ds) := fun H Q e k =>
  a H _ e fun x H1 e1 h1 => by
    obtain ⟨p, xs, rfl, hp, hx⟩ := tup_of h1
    refine ⟨p, xs, rfl, .inr (seqT_same (del_le _ l) hp), fun q hq => ?_⟩
    exact k _ _ (e1.trans (same_new hq _)) (.lst (SqL.of (off_new hl (e.trans e1) hq).2) (dpAll_same (same_del l (same_new hq _)) hx))
theorem ee_cut {ta : TE} {ds : List PyData} {zs : List V} (hl : H0 l = some (.lst zs)) (a : EvE K l σ H0 ta (.tuple ds)) : EvE K l σ H0 (tSl (rSlS K) ta (tPart (tUn (rU fun i => .int (-i)) (tC (.int 1)))) tNoPart) (.tuple ((ds.drop (HT.sIx ds.length 0 (some (-1)))).take (HT.sIx ds.length ds.length none - HT.sIx ds.length 0 (some (-1))))) := fun H Q e k =>
  a H _ e fun x H1 e1 h1 => by
    obtain ⟨p, xs, rfl, hp, hx⟩ := tup_of h1
    refine ⟨1, rfl, -1, rfl, p, xs, rfl, seqT_same (del_le _ l) hp, fun q H2 e2 h2 => ?_⟩
    refine k _ _ (e1.trans e2) (.tup (seqT_off h2 (((e.trans e1).trans e2) _ _ hl)) ?_)
    unfold cutV
    rw [dp_len hx]
    exact dpAll_takes _ (dpAll_drop _ (dpAll_same (same_del l e2) hx))
theorem ee_add {ta tb : TE} {i j : Int} (a : EvE K l σ H0 ta (.int i)) (b : EvE K l σ H0 tb (.int j)) : EvE K l σ H0 (tOp (rI0 fun i j => .int (i + j)) ta tb) (.int (i + j)) := fun H Q e k =>
  a H _ e fun x H1 e1 h1 => b H1 _ (e.trans e1) fun y H2 e2 h2 => by
    cases h1; cases h2
    exact ⟨_, _, rfl, rfl, k _ _ (e1.trans e2) (.int _)⟩
theorem goE {t : TE} {rest : TS} {D : Ends} {i : Nat} {d : PyData} (e : EvE K l σ H0 t d) (k : ∀ x H', Same H0 H' → Dp K (del H' l) x d → rest D (σ.set i (some x)) H') : tSeq (tAsg t (gName i)) rest D σ H0 := e H0 _ (Same.refl _) k
end
theorem takes0N {X : Cx} : L2N.Takes X (fun _ _ _ _ => False) := fun _ _ x => by
  obtain ⟨_, _, _, _, _, _, _, _, _, _, _, _, _, _, _, _, z⟩ := x
  exact z.elim
end Lk

set_option Elab.async false
set_option linter.all false
set_option maxRecDepth 100000
set_option maxHeartbeats 4000000
namespace Lk
open PySem PySem.Spec PyProof.Rows L2 HT
/-! ### l[::-1] of a list -/
def tRevL (K : PySem.W.Frag) (te : TE) : TE := fun σ H Q => te σ H fun x H1 => ∃ a xs, x = .ref a ∧ SqL K H1 a xs ∧ ∀ p, H1 p = none → Q (.ref p) (upd H1 p (.lst xs.reverse))
theorem vals_rev : ∀ {xs : List V} {us : List Value}, Vals xs us → Vals xs.reverse us.reverse
  | _, _, .nil => .nil
  | _, _, .cons a t => by
    rw [List.reverse_cons, List.reverse_cons]
    exact (vals_rev t).append (.cons a .nil)
theorem pe_revL {X : Cx} {e : Expr} {te : TE} {k : Nat} {p1 p2 p3 pos : Pos} (he : PE X e te) : PE X (.Subscript e (.Slice none none (some (.UnaryOp .USub (.Constant (.int 1) k p1) p2)) p3) pos) (tRevL X.K te) := by
  refine ⟨fun pins s σ H Q I h => Subscript_ (thn (he.run pins s σ H _ I h) fun v sA ⟨x, HA, IA, rA, a, xs, ex, hx, q⟩ => ?_)⟩
  subst ex
  cases rA
  have hst : PO X (some (.UnaryOp .USub (.Constant (.int 1) k p1) p2)) (tPart (tUn (rU fun i => .int (-i)) (tC (.int 1)))) := po_some (pe_un un_neg pe_int)
  refine wpAny_Slice (thn (po_none.run pins sA σ HA (fun o G => o = none ∧ G = HA) IA ⟨rfl, rfl⟩) fun vl sB ⟨l, HB, IB, pl, el, eB⟩ => ?_)
  subst el eB
  refine thn (po_none.run pins sB σ HB (fun o G => o = none ∧ G = HB) IB ⟨rfl, rfl⟩) fun vu sC ⟨u, HC, IC, pu, eu, eC⟩ => ?_
  subst eu eC
  refine thn (hst.run pins sC σ HC (fun o G => o = some (-1) ∧ G = HC) IC ⟨1, rfl, -1, rfl, rfl, rfl⟩) fun vs sD ⟨o, HD, ID, ps, eo, eD⟩ => ?_
  subst eo eD
  have IE : Inv X pins σ HD { sD with heap := sD.heap.push { cls := .type "slice", data := .fields #[vl, vu, vs] } } := ID.kept (t' := sD.toks) fun b ob q => Heap.get?_push_of_some _ q
  obtain ⟨its, r, ht, hz⟩ := IE.list hx
  show wpAny (model X.prog X.w) X.A (subscriptTail e (.Slice none none (some (.UnaryOp .USub (.Constant (.int 1) k p1) p2)) p3) (.ref a) (.ref sD.heap.objs.size)) (EP X pins σ Q) X.xe { sD with heap := sD.heap.push { cls := .type "slice", data := .fields #[vl, vu, vs] } }
  refine tail_any (ops := [.ref a, .ref sD.heap.objs.size]) ht.isList.typeIs slot_list_getitem.lookup ?_ (by with_unfolding_all rfl)
  have hlen := r.length
  refine wpAny_getItem_list_slice ht.isList (Heap.IsSliceOf.new _ vl vu vs) pl pu ps (by simp) ?_ (by rw [List.size_toArray, ← hlen]; exact hz)
  rw [PySem.W.krv_pick]
  have lz : xs.reverse.length ≤ sizeLine := by rw [List.length_reverse]; exact hz
  exact ⟨.ref _, _, IE.laid (t' := sD.toks) (o := .lst xs.reverse) (fun b ob q => Heap.get?_push_of_some _ q) (Nat.le_refl _) ⟨lz, _, 0, vals_rev r, Heap.get?_push_size _ rfl⟩, rfl, q _ (IE.hok.fresh (Nat.le_refl _))⟩
end Lk

set_option Elab.async false
set_option linter.all false
set_option maxRecDepth 100000
set_option maxHeartbeats 4000000
namespace Lk
open PySem PySem.Spec PyProof.Rows L2
/-! ### t * k of a longer tuple -/
def rRepB (K : PySem.W.Frag) : R2 := fun x y H Q => ∃ (l : Addr) (k : Int) (zs : List V), x = .ref l ∧ y = .int k ∧ SqT K H l zs ∧ zs ≠ [] ∧ 2 ≤ k ∧ k ≤ 1000 ∧ zs.length ≤ 2000 ∧ ∀ p, H p = none → Q (.ref p) (upd H p (.tup (List.replicate k.toNat zs).flatten))
theorem op_repB {X : Cx} : OpR X (binaryOp .Mult) (rRepB X.K) := by
  intro pins s σ H x y v u Q I rx ry ⟨l, k, zs, ex, ey, hT, ne, k2, k1000, lz, q⟩
  subst ex ey
  obtain rfl : v = Value.ref l := rx
  obtain ⟨tk, rfl⟩ := ry
  obtain ⟨us, rv, ⟨⟨oc, od, dt, sl⟩, e, e1, n, e2⟩, _⟩ := I.tuple hT
  simp only at e1 e2
  subst e1 e2
  have sz : us.toArray.size = zs.length := by rw [List.size_toArray]; exact rv.length.symm
  have ul : us.length = zs.length := rv.length.symm
  have em : us.toArray.isEmpty = false := by
    match us, zs, rv, ne with
    | _, _, .nil, ne => exact absurd rfl ne
    | _, _, .cons _ _, _ => rfl
  have bd : k.toNat * zs.length ≤ 2000000 := Nat.le_trans (Nat.mul_le_mul (show k.toNat ≤ 1000 by omega) lz) (by decide)
  have bi : ((us.toArray.size : Nat) : Int) * k ≤ 2000000 := by
    rw [sz]
    have w1 : ((zs.length : Nat) : Int) * k ≤ 2000 * k := Int.mul_le_mul_of_nonneg_right (by omega) (by omega)
    omega
  have fits : (List.replicate k.toNat us).flatten.length ≤ sizeLine := by
    rw [lm_len_rep_flat, ul]
    exact Nat.le_trans bd (by decide)
  have g0 : (decide (k < -(2 ^ 63)) || decide (k ≥ 2 ^ 63)) = false := by
    rw [Bool.or_eq_false_iff]
    exact ⟨decide_eq_false (by omega), decide_eq_false (by omega)⟩
  have g1 : (us.toArray.isEmpty || k == 1) = false := by
    rw [Bool.or_eq_false_iff]
    exact ⟨em, beq_eq_false_iff_ne.mpr (by omega)⟩
  have g2 : (decide (k ≤ 0) || us.toArray.isEmpty) = false := by
    rw [Bool.or_eq_false_iff]
    exact ⟨decide_eq_false (by omega), em⟩
  have g4 : Builtin.Tuple.tupleTooMany (((us.toArray.size : Nat) : Int) * k) = false := by
    refine decide_eq_false ?_
    rw [sizeLine_eq]
    omega
  have mul := call_meets F.slot_tuple_mul (s := s) (show s.TypeIs (.ref l) "tuple" from ⟨_, e, rfl⟩) F.entry_tuple_mul (F.args_tuple_mul_2 _ _) (tuple_mulW l us.toArray n od sl k tk g0 g1 g2 (by omega) g4 (by rw [size_rep, List.size_toArray]; exact fits))
      (prog := X.prog) (w := X.w) (A := X.A) (E := X.xe) (Q := EP X pins σ Q) ⟨e, by
        rw [size_rep]
        refine ⟨.ref s.heap.objs.size, _, I.laid (t' := s.toks) (o := .tup (List.replicate k.toNat zs).flatten) (fun b ob z => Heap.get?_push_of_some _ z) (Nat.le_refl _) ?_, rfl, q _ (I.hok.fresh (Nat.le_refl _))⟩
        refine ⟨?_, _, rv.rep k.toNat, IsTup.new _ _⟩
        rw [lm_len_rep_flat]
        exact Nat.le_trans bd (by decide)⟩
  exact wpAny_binaryOp_repeat_ref (T := "tuple") (U := "int") (by decide) ⟨_, e, rfl⟩ (fun s2 => typeIs_int s2 k tk) noFill_tuple_mul F.fills_int_mul F.slot_int_rmul repeat_tuple F.slot_int_index.lookup
    (call_meets F.slot_int_rmul (typeIs_int s k tk) F.entry_int_rmul (F.args_int_rmul_2 _ _) (int_rmul_tuple k tk l us.toArray n od sl) ⟨e, rfl, ⟨_, e, rfl⟩, mul⟩)
end Lk

set_option Elab.async false
set_option linter.all false
set_option maxRecDepth 100000
set_option maxHeartbeats 4000000
namespace Lk
open PySem PySem.Spec PyProof.Rows L2
def top (i : Nat) : Stmt := PySem.Challenge.pw_linkneed_k40_whole_words_and_rows.main.body.getD i (.Pass ⟨0, 0, 0, 0⟩)
abbrev s_least_long : Stmt := top 1
abbrev sl_least_long : List Str := ["things", "low", "high", "chosen", "far", "at"]
theorem sc_least_long : FnScope sl_least_long ["things", "low", "high"] (defScope s_least_long) := ⟨rfl, rfl, rfl, by decide +kernel, rfl, by decide +kernel, by decide +kernel⟩
abbrev s_addresses_of : Stmt := top 2
abbrev sl_addresses_of : List Str := ["things", "chosen", "addresses", "at", "thing", "length"]
theorem sc_addresses_of : FnScope sl_addresses_of ["things", "chosen"] (defScope s_addresses_of) := ⟨rfl, rfl, rfl, by decide +kernel, rfl, by decide +kernel, by decide +kernel⟩
abbrev s_is_jump : Stmt := top 3
abbrev sl_is_jump : List Str := ["thing"]
theorem sc_is_jump : FnScope sl_is_jump ["thing"] (defScope s_is_jump) := ⟨rfl, rfl, rfl, by decide +kernel, rfl, by decide +kernel, by decide +kernel⟩
abbrev s__too_far : Stmt := top 4
abbrev sl__too_far : List Str := ["things", "low", "high", "chosen", "addresses", "far", "at", "thing"]
theorem sc__too_far : FnScope sl__too_far ["things", "low", "high", "chosen"] (defScope s__too_far) := ⟨rfl, rfl, rfl, by decide +kernel, rfl, by decide +kernel, by decide +kernel⟩
abbrev s_parts_of : Stmt := top 20
abbrev sl_parts_of : List Str := ["word"]
theorem sc_parts_of : FnScope sl_parts_of ["word"] (defScope s_parts_of) := ⟨rfl, rfl, rfl, by decide +kernel, rfl, by decide +kernel, by decide +kernel⟩
abbrev s_word_of : Stmt := top 21
abbrev sl_word_of : List Str := ["verb", "b", "c", "d"]
theorem sc_word_of : FnScope sl_word_of ["verb", "b", "c", "d"] (defScope s_word_of) := ⟨rfl, rfl, rfl, by decide +kernel, rfl, by decide +kernel, by decide +kernel⟩
abbrev s_load : Stmt := top 24
abbrev sl_load : List Str := ["linked", "need", "takes", "gives", "functions", "starts", "addresses", "behind", "title", "_", "rows", "words", "places", "here", "at", "row", "address"]
theorem sc_load : FnScope sl_load ["linked"] (defScope s_load) := ⟨rfl, rfl, rfl, by decide +kernel, rfl, by decide +kernel, by decide +kernel⟩
abbrev s__addresses_in : Stmt := top 25
abbrev sl__addresses_in : List Str := ["rows", "things", "row"]
theorem sc__addresses_in : FnScope sl__addresses_in ["rows"] (defScope s__addresses_in) := ⟨rfl, rfl, rfl, by decide +kernel, rfl, by decide +kernel, by decide +kernel⟩
abbrev s__thing_of : Stmt := top 26
abbrev sl__thing_of : List Str := ["row"]
theorem sc__thing_of : FnScope sl__thing_of ["row"] (defScope s__thing_of) := ⟨rfl, rfl, rfl, by decide +kernel, rfl, by decide +kernel, by decide +kernel⟩
abbrev s__target_of : Stmt := top 27
abbrev sl__target_of : List Str := ["row", "addresses", "starts"]
theorem sc__target_of : FnScope sl__target_of ["row", "addresses", "starts"] (defScope s__target_of) := ⟨rfl, rfl, rfl, by decide +kernel, rfl, by decide +kernel, by decide +kernel⟩
abbrev s__row_words : Stmt := top 28
abbrev sl__row_words : List Str := ["row", "address", "is_long", "target", "verb", "cell", "codes"]
theorem sc__row_words : FnScope sl__row_words ["row", "address", "is_long", "target"] (defScope s__row_words) := ⟨rfl, rfl, rfl, by decide +kernel, rfl, by decide +kernel, by decide +kernel⟩
abbrev s_rows_in : Stmt := top 29
abbrev sl_rows_in : List Str := ["words", "rows", "at", "behind", "length"]
theorem sc_rows_in : FnScope sl_rows_in ["words"] (defScope s_rows_in) := ⟨rfl, rfl, rfl, by decide +kernel, rfl, by decide +kernel, by decide +kernel⟩
abbrev s__row_of : Stmt := top 30
abbrev sl__row_of : List Str := ["word", "address", "behind", "verb", "b", "c", "d", "target"]
theorem sc__row_of : FnScope sl__row_of ["word", "address", "behind"] (defScope s__row_of) := ⟨rfl, rfl, rfl, by decide +kernel, rfl, by decide +kernel, by decide +kernel⟩
abbrev s__law_feed : Stmt := top 32
abbrev sl__law_feed : List Str := ["_law_script", "_law_cell"]
theorem sc__law_feed : FnScope sl__law_feed ["_law_script"] (defScope s__law_feed) := ⟨rfl, rfl, rfl, by decide +kernel, rfl, by decide +kernel, by decide +kernel⟩
abbrev s__law_draw : Stmt := top 33
abbrev sl__law_draw : List Str := ["_law_feed_here", "_law_size_here", "_law_figure", "_law_cells", "_law_spot", "_law_cell", "_law_blend"]
theorem sc__law_draw : FnScope sl__law_draw ["_law_feed_here", "_law_size_here"] (defScope s__law_draw) := ⟨rfl, rfl, rfl, by decide +kernel, rfl, by decide +kernel, by decide +kernel⟩
abbrev s__law_any : Stmt := top 34
abbrev sl__law_any : List Str := ["_law_feed_here", "_law_some"]
theorem sc__law_any : FnScope sl__law_any ["_law_feed_here", "_law_some"] (defScope s__law_any) := ⟨rfl, rfl, rfl, by decide +kernel, rfl, by decide +kernel, by decide +kernel⟩
abbrev s__law_same : Stmt := top 35
abbrev sl__law_same : List Str := ["_law_told", "_law_due"]
theorem sc__law_same : FnScope sl__law_same ["_law_told", "_law_due"] (defScope s__law_same) := ⟨rfl, rfl, rfl, by decide +kernel, rfl, by decide +kernel, by decide +kernel⟩
abbrev s__law_unit : Stmt := top 36
abbrev sl__law_unit : List Str := ["_law_feed_here", "_law_head", "_law_heads", "_law_many", "_law_title", "_law_own", "_law_gives", "_law_r", "_law_s", "_law_t", "_law_way", "_law_jump", "_law_test"]
theorem sc__law_unit : FnScope sl__law_unit ["_law_feed_here", "_law_head", "_law_heads", "_law_many"] (defScope s__law_unit) := ⟨rfl, rfl, rfl, by decide +kernel, rfl, by decide +kernel, by decide +kernel⟩
abbrev s__law_ring_call : Stmt := top 37
abbrev sl__law_ring_call : List Str := ["_law_feed_here", "_law_head", "_law_title", "_law_own", "_law_gives", "_law_left", "_law_held", "_law_lap", "_law_rows_here", "_law_r", "_law_i"]
theorem sc__law_ring_call : FnScope sl__law_ring_call ["_law_feed_here", "_law_head"] (defScope s__law_ring_call) := ⟨rfl, rfl, rfl, by decide +kernel, rfl, by decide +kernel, by decide +kernel⟩
abbrev s__law_rows : Stmt := top 38
abbrev sl__law_rows : List Str := ["_law_feed_here", "_law_head", "_law_heads", "_law_must", "_law_size_here", "_law_units", "_law_many", "_law_lap", "_law_starts", "_law_found", "_law_unit_here", "_law_row", "_law_name"]
theorem sc__law_rows : FnScope sl__law_rows ["_law_feed_here", "_law_head", "_law_heads", "_law_must", "_law_size_here"] (defScope s__law_rows) := ⟨rfl, rfl, rfl, by decide +kernel, rfl, by decide +kernel, by decide +kernel⟩
abbrev s__law_linked : Stmt := top 39
abbrev sl__law_linked : List Str := ["_law_feed_here", "_law_some", "_law_names", "_law_high", "_law_heads", "_law_found", "_law_k", "_law_size_here", "_law_functions", "_law_need", "_law_wide", "_law_name", "_law_head"]
theorem sc__law_linked : FnScope sl__law_linked ["_law_feed_here"] (defScope s__law_linked) := ⟨rfl, rfl, rfl, by decide +kernel, rfl, by decide +kernel, by decide +kernel⟩
abbrev s__law_size : Stmt := top 40
abbrev sl__law_size : List Str := ["_law_row"]
theorem sc__law_size : FnScope sl__law_size ["_law_row"] (defScope s__law_size) := ⟨rfl, rfl, rfl, by decide +kernel, rfl, by decide +kernel, by decide +kernel⟩
abbrev s__law_spots : Stmt := top 41
abbrev sl__law_spots : List Str := ["_law_rows_here", "_law_base", "_law_far_here", "_law_found", "_law_k"]
theorem sc__law_spots : FnScope sl__law_spots ["_law_rows_here", "_law_base", "_law_far_here"] (defScope s__law_spots) := ⟨rfl, rfl, rfl, by decide +kernel, rfl, by decide +kernel, by decide +kernel⟩
abbrev s__law_far : Stmt := top 42
abbrev sl__law_far : List Str := ["_law_rows_here", "_law_found", "_law_late", "_law_spots_here", "_law_k", "_law_by"]
theorem sc__law_far : FnScope sl__law_far ["_law_rows_here"] (defScope s__law_far) := ⟨rfl, rfl, rfl, by decide +kernel, rfl, by decide +kernel, by decide +kernel⟩
abbrev s__law_first : Stmt := top 43
abbrev sl__law_first : List Str := ["_law_a", "_law_b", "_law_c", "_law_d"]
theorem sc__law_first : FnScope sl__law_first ["_law_a", "_law_b", "_law_c", "_law_d"] (defScope s__law_first) := ⟨rfl, rfl, rfl, by decide +kernel, rfl, by decide +kernel, by decide +kernel⟩
abbrev s__law_worded : Stmt := top 44
abbrev sl__law_worded : List Str := ["_law_row", "_law_spot", "_law_to", "_law_is_far", "_law_heads", "_law_verbs", "_law_kinds"]
theorem sc__law_worded : FnScope sl__law_worded ["_law_row", "_law_spot", "_law_to", "_law_is_far", "_law_heads"] (defScope s__law_worded) := ⟨rfl, rfl, rfl, by decide +kernel, rfl, by decide +kernel, by decide +kernel⟩
abbrev s__law_loaded : Stmt := top 45
abbrev sl__law_loaded : List Str := ["_law_linked_here", "_law_need", "_law_takes", "_law_gives", "_law_functions", "_law_heads", "_law_base", "_law_fars", "_law_title", "_law_low", "_law_rows_here", "_law_words", "_law_places", "_law_found", "_law_spots_here", "_law_k", "_law_row", "_law_spot", "_law_to"]
theorem sc__law_loaded : FnScope sl__law_loaded ["_law_linked_here"] (defScope s__law_loaded) := ⟨rfl, rfl, rfl, by decide +kernel, rfl, by decide +kernel, by decide +kernel⟩
abbrev s__law_few : Stmt := top 46
abbrev sl__law_few : List Str := ["_law_test", "_law_beat", "_law_back", "_law_rows_here", "_law_some", "_law_late", "_law_words"]
theorem sc__law_few : FnScope sl__law_few [] (defScope s__law_few) := ⟨rfl, rfl, rfl, by decide +kernel, rfl, by decide +kernel, by decide +kernel⟩
abbrev s__law_are_few_right : Stmt := top 47
abbrev sl__law_are_few_right : List Str := ["_law_rows_here", "_law_words", "_law_linked_here", "_law_told", "_law_places"]
theorem sc__law_are_few_right : FnScope sl__law_are_few_right [] (defScope s__law_are_few_right) := ⟨rfl, rfl, rfl, by decide +kernel, rfl, by decide +kernel, by decide +kernel⟩
abbrev s__law_is_far_right : Stmt := top 48
abbrev sl__law_is_far_right : List Str := ["_law_rows_here", "_law_names", "_law_calls", "_law_functions", "_law_words", "_law_places", "_law_due", "_law_k", "_law_name", "_law_i"]
theorem sc__law_is_far_right : FnScope sl__law_is_far_right [] (defScope s__law_is_far_right) := ⟨rfl, rfl, rfl, by decide +kernel, rfl, by decide +kernel, by decide +kernel⟩
abbrev s_law : Stmt := top 49
abbrev sl_law : List Str := ["_law_script", "_law_feed_here", "_law_lap", "_law_linked_here", "_law_kept", "_law_image", "_law_rows_here", "_law_told"]
theorem sc_law : FnScope sl_law ["_law_script"] (defScope s_law) := ⟨rfl, rfl, rfl, by decide +kernel, rfl, by decide +kernel, by decide +kernel⟩
structure Txt (K : PySem.W.Frag) (mg : Str → Option Value) where
  f_least_long : Addr
  d_least_long : FuncData
  F_least_long : Fun K "least_long" "least_long" s_least_long f_least_long d_least_long
  m_least_long : mg "least_long" = some (.ref f_least_long)
  k_least_long : PySem.W.keepIn K (.ref f_least_long) = true
  b_least_long : Binds K d_least_long ["things", "low", "high"] []
  f_addresses_of : Addr
  d_addresses_of : FuncData
  F_addresses_of : Fun K "addresses_of" "addresses_of" s_addresses_of f_addresses_of d_addresses_of
  m_addresses_of : mg "addresses_of" = some (.ref f_addresses_of)
  k_addresses_of : PySem.W.keepIn K (.ref f_addresses_of) = true
  b_addresses_of : Binds K d_addresses_of ["things", "chosen"] []
  f_is_jump : Addr
  d_is_jump : FuncData
  F_is_jump : Fun K "is_jump" "is_jump" s_is_jump f_is_jump d_is_jump
  m_is_jump : mg "is_jump" = some (.ref f_is_jump)
  k_is_jump : PySem.W.keepIn K (.ref f_is_jump) = true
  b_is_jump : Binds K d_is_jump ["thing"] []
  f__too_far : Addr
  d__too_far : FuncData
  F__too_far : Fun K "_too_far" "_too_far" s__too_far f__too_far d__too_far
  m__too_far : mg "_too_far" = some (.ref f__too_far)
  k__too_far : PySem.W.keepIn K (.ref f__too_far) = true
  b__too_far : Binds K d__too_far ["things", "low", "high", "chosen"] []
  f_parts_of : Addr
  d_parts_of : FuncData
  F_parts_of : Fun K "parts_of" "parts_of" s_parts_of f_parts_of d_parts_of
  m_parts_of : mg "parts_of" = some (.ref f_parts_of)
  k_parts_of : PySem.W.keepIn K (.ref f_parts_of) = true
  b_parts_of : Binds K d_parts_of ["word"] []
  f_word_of : Addr
  d_word_of : FuncData
  F_word_of : FunD K "word_of" "word_of" (defArgs s_word_of) (defBody s_word_of) (defScope s_word_of) [V.int 0, V.int 0, V.int 0] [] f_word_of d_word_of
  m_word_of : mg "word_of" = some (.ref f_word_of)
  k_word_of : PySem.W.keepIn K (.ref f_word_of) = true
  e_word_of_1 : List Value
  v_word_of_1 : Vals [V.int 0, V.int 0, V.int 0] e_word_of_1
  b_word_of_1 : Binds K d_word_of ["verb", "b", "c", "d"] e_word_of_1
  e_word_of_2 : List Value
  v_word_of_2 : Vals [V.int 0, V.int 0] e_word_of_2
  b_word_of_2 : Binds K d_word_of ["verb", "b", "c", "d"] e_word_of_2
  e_word_of_3 : List Value
  v_word_of_3 : Vals [V.int 0] e_word_of_3
  b_word_of_3 : Binds K d_word_of ["verb", "b", "c", "d"] e_word_of_3
  e_word_of_4 : List Value
  v_word_of_4 : Vals [] e_word_of_4
  b_word_of_4 : Binds K d_word_of ["verb", "b", "c", "d"] e_word_of_4
  f_load : Addr
  d_load : FuncData
  F_load : Fun K "load" "load" s_load f_load d_load
  m_load : mg "load" = some (.ref f_load)
  k_load : PySem.W.keepIn K (.ref f_load) = true
  b_load : Binds K d_load ["linked"] []
  w_load_linked : KBinds K d_load ["linked"] ["linked"] (fun us ws => match us, ws with | [], [a] => [a] | _, _ => []) (fun vs zs => match vs, zs with | [], [a] => [a] | _, _ => [])
  f__addresses_in : Addr
  d__addresses_in : FuncData
  F__addresses_in : Fun K "_addresses_in" "_addresses_in" s__addresses_in f__addresses_in d__addresses_in
  m__addresses_in : mg "_addresses_in" = some (.ref f__addresses_in)
  k__addresses_in : PySem.W.keepIn K (.ref f__addresses_in) = true
  b__addresses_in : Binds K d__addresses_in ["rows"] []
  f__thing_of : Addr
  d__thing_of : FuncData
  F__thing_of : Fun K "_thing_of" "_thing_of" s__thing_of f__thing_of d__thing_of
  m__thing_of : mg "_thing_of" = some (.ref f__thing_of)
  k__thing_of : PySem.W.keepIn K (.ref f__thing_of) = true
  b__thing_of : Binds K d__thing_of ["row"] []
  f__target_of : Addr
  d__target_of : FuncData
  F__target_of : Fun K "_target_of" "_target_of" s__target_of f__target_of d__target_of
  m__target_of : mg "_target_of" = some (.ref f__target_of)
  k__target_of : PySem.W.keepIn K (.ref f__target_of) = true
  b__target_of : Binds K d__target_of ["row", "addresses", "starts"] []
  f__row_words : Addr
  d__row_words : FuncData
  F__row_words : Fun K "_row_words" "_row_words" s__row_words f__row_words d__row_words
  m__row_words : mg "_row_words" = some (.ref f__row_words)
  k__row_words : PySem.W.keepIn K (.ref f__row_words) = true
  b__row_words : Binds K d__row_words ["row", "address", "is_long", "target"] []
  f_rows_in : Addr
  d_rows_in : FuncData
  F_rows_in : Fun K "rows_in" "rows_in" s_rows_in f_rows_in d_rows_in
  m_rows_in : mg "rows_in" = some (.ref f_rows_in)
  k_rows_in : PySem.W.keepIn K (.ref f_rows_in) = true
  b_rows_in : Binds K d_rows_in ["words"] []
  w_rows_in_words : KBinds K d_rows_in ["words"] ["words"] (fun us ws => match us, ws with | [], [a] => [a] | _, _ => []) (fun vs zs => match vs, zs with | [], [a] => [a] | _, _ => [])
  f__row_of : Addr
  d__row_of : FuncData
  F__row_of : Fun K "_row_of" "_row_of" s__row_of f__row_of d__row_of
  m__row_of : mg "_row_of" = some (.ref f__row_of)
  k__row_of : PySem.W.keepIn K (.ref f__row_of) = true
  b__row_of : Binds K d__row_of ["word", "address", "behind"] []
  f__law_feed : Addr
  d__law_feed : FuncData
  F__law_feed : Fun K "_law_feed" "_law_feed" s__law_feed f__law_feed d__law_feed
  m__law_feed : mg "_law_feed" = some (.ref f__law_feed)
  k__law_feed : PySem.W.keepIn K (.ref f__law_feed) = true
  b__law_feed : Binds K d__law_feed ["_law_script"] []
  f__law_draw : Addr
  d__law_draw : FuncData
  F__law_draw : Fun K "_law_draw" "_law_draw" s__law_draw f__law_draw d__law_draw
  m__law_draw : mg "_law_draw" = some (.ref f__law_draw)
  k__law_draw : PySem.W.keepIn K (.ref f__law_draw) = true
  b__law_draw : Binds K d__law_draw ["_law_feed_here", "_law_size_here"] []
  f__law_any : Addr
  d__law_any : FuncData
  F__law_any : Fun K "_law_any" "_law_any" s__law_any f__law_any d__law_any
  m__law_any : mg "_law_any" = some (.ref f__law_any)
  k__law_any : PySem.W.keepIn K (.ref f__law_any) = true
  b__law_any : Binds K d__law_any ["_law_feed_here", "_law_some"] []
  f__law_same : Addr
  d__law_same : FuncData
  F__law_same : Fun K "_law_same" "_law_same" s__law_same f__law_same d__law_same
  m__law_same : mg "_law_same" = some (.ref f__law_same)
  k__law_same : PySem.W.keepIn K (.ref f__law_same) = true
  b__law_same : Binds K d__law_same ["_law_told", "_law_due"] []
  f__law_unit : Addr
  d__law_unit : FuncData
  F__law_unit : Fun K "_law_unit" "_law_unit" s__law_unit f__law_unit d__law_unit
  m__law_unit : mg "_law_unit" = some (.ref f__law_unit)
  k__law_unit : PySem.W.keepIn K (.ref f__law_unit) = true
  b__law_unit : Binds K d__law_unit ["_law_feed_here", "_law_head", "_law_heads", "_law_many"] []
  f__law_ring_call : Addr
  d__law_ring_call : FuncData
  F__law_ring_call : Fun K "_law_ring_call" "_law_ring_call" s__law_ring_call f__law_ring_call d__law_ring_call
  m__law_ring_call : mg "_law_ring_call" = some (.ref f__law_ring_call)
  k__law_ring_call : PySem.W.keepIn K (.ref f__law_ring_call) = true
  b__law_ring_call : Binds K d__law_ring_call ["_law_feed_here", "_law_head"] []
  f__law_rows : Addr
  d__law_rows : FuncData
  F__law_rows : Fun K "_law_rows" "_law_rows" s__law_rows f__law_rows d__law_rows
  m__law_rows : mg "_law_rows" = some (.ref f__law_rows)
  k__law_rows : PySem.W.keepIn K (.ref f__law_rows) = true
  b__law_rows : Binds K d__law_rows ["_law_feed_here", "_law_head", "_law_heads", "_law_must", "_law_size_here"] []
  f__law_linked : Addr
  d__law_linked : FuncData
  F__law_linked : Fun K "_law_linked" "_law_linked" s__law_linked f__law_linked d__law_linked
  m__law_linked : mg "_law_linked" = some (.ref f__law_linked)
  k__law_linked : PySem.W.keepIn K (.ref f__law_linked) = true
  b__law_linked : Binds K d__law_linked ["_law_feed_here"] []
  f__law_size : Addr
  d__law_size : FuncData
  F__law_size : Fun K "_law_size" "_law_size" s__law_size f__law_size d__law_size
  m__law_size : mg "_law_size" = some (.ref f__law_size)
  k__law_size : PySem.W.keepIn K (.ref f__law_size) = true
  b__law_size : Binds K d__law_size ["_law_row"] []
  f__law_spots : Addr
  d__law_spots : FuncData
  F__law_spots : Fun K "_law_spots" "_law_spots" s__law_spots f__law_spots d__law_spots
  m__law_spots : mg "_law_spots" = some (.ref f__law_spots)
  k__law_spots : PySem.W.keepIn K (.ref f__law_spots) = true
  b__law_spots : Binds K d__law_spots ["_law_rows_here", "_law_base", "_law_far_here"] []
  f__law_far : Addr
  d__law_far : FuncData
  F__law_far : Fun K "_law_far" "_law_far" s__law_far f__law_far d__law_far
  m__law_far : mg "_law_far" = some (.ref f__law_far)
  k__law_far : PySem.W.keepIn K (.ref f__law_far) = true
  b__law_far : Binds K d__law_far ["_law_rows_here"] []
  f__law_first : Addr
  d__law_first : FuncData
  F__law_first : Fun K "_law_first" "_law_first" s__law_first f__law_first d__law_first
  m__law_first : mg "_law_first" = some (.ref f__law_first)
  k__law_first : PySem.W.keepIn K (.ref f__law_first) = true
  b__law_first : Binds K d__law_first ["_law_a", "_law_b", "_law_c", "_law_d"] []
  f__law_worded : Addr
  d__law_worded : FuncData
  F__law_worded : Fun K "_law_worded" "_law_worded" s__law_worded f__law_worded d__law_worded
  m__law_worded : mg "_law_worded" = some (.ref f__law_worded)
  k__law_worded : PySem.W.keepIn K (.ref f__law_worded) = true
  b__law_worded : Binds K d__law_worded ["_law_row", "_law_spot", "_law_to", "_law_is_far", "_law_heads"] []
  f__law_loaded : Addr
  d__law_loaded : FuncData
  F__law_loaded : Fun K "_law_loaded" "_law_loaded" s__law_loaded f__law_loaded d__law_loaded
  m__law_loaded : mg "_law_loaded" = some (.ref f__law_loaded)
  k__law_loaded : PySem.W.keepIn K (.ref f__law_loaded) = true
  b__law_loaded : Binds K d__law_loaded ["_law_linked_here"] []
  f__law_few : Addr
  d__law_few : FuncData
  F__law_few : Fun K "_law_few" "_law_few" s__law_few f__law_few d__law_few
  m__law_few : mg "_law_few" = some (.ref f__law_few)
  k__law_few : PySem.W.keepIn K (.ref f__law_few) = true
  b__law_few : Binds K d__law_few [] []
  f__law_are_few_right : Addr
  d__law_are_few_right : FuncData
  F__law_are_few_right : Fun K "_law_are_few_right" "_law_are_few_right" s__law_are_few_right f__law_are_few_right d__law_are_few_right
  m__law_are_few_right : mg "_law_are_few_right" = some (.ref f__law_are_few_right)
  k__law_are_few_right : PySem.W.keepIn K (.ref f__law_are_few_right) = true
  b__law_are_few_right : Binds K d__law_are_few_right [] []
  f__law_is_far_right : Addr
  d__law_is_far_right : FuncData
  F__law_is_far_right : Fun K "_law_is_far_right" "_law_is_far_right" s__law_is_far_right f__law_is_far_right d__law_is_far_right
  m__law_is_far_right : mg "_law_is_far_right" = some (.ref f__law_is_far_right)
  k__law_is_far_right : PySem.W.keepIn K (.ref f__law_is_far_right) = true
  b__law_is_far_right : Binds K d__law_is_far_right [] []
  f_law : Addr
  d_law : FuncData
  F_law : Fun K "law" "law" s_law f_law d_law
  m_law : mg "law" = some (.ref f_law)
  k_law : PySem.W.keepIn K (.ref f_law) = true
  b_law : Binds K d_law ["_law_script"] []
  a_OPERATIONS : Addr
  c_OPERATIONS : mg "OPERATIONS" = some (.ref a_OPERATIONS)
  s_OPERATIONS : ∀ H, SqT K H a_OPERATIONS ((["add", "sub", "mul", "div", "rem", "less", "same"] : List Str).map V.str)
  y_OPERATIONS : ∀ H, tyV K "tuple" (.ref a_OPERATIONS) H
  t_PLAIN : Tok
  c_PLAIN : mg "PLAIN" = some (.int 0 t_PLAIN)
  t_NUMBER : Tok
  c_NUMBER : mg "NUMBER" = some (.int 1 t_NUMBER)
  t_MOVE : Tok
  c_MOVE : mg "MOVE" = some (.int 2 t_MOVE)
  t_SWAP : Tok
  c_SWAP : mg "SWAP" = some (.int 3 t_SWAP)
  t_SHORT_JUMP : Tok
  c_SHORT_JUMP : mg "SHORT_JUMP" = some (.int 11 t_SHORT_JUMP)
  t_LONG_JUMP : Tok
  c_LONG_JUMP : mg "LONG_JUMP" = some (.int 12 t_LONG_JUMP)
  t_SHORT_NOUGHT : Tok
  c_SHORT_NOUGHT : mg "SHORT_NOUGHT" = some (.int 13 t_SHORT_NOUGHT)
  t_LONG_NOUGHT : Tok
  c_LONG_NOUGHT : mg "LONG_NOUGHT" = some (.int 14 t_LONG_NOUGHT)
  t_CALL : Tok
  c_CALL : mg "CALL" = some (.int 15 t_CALL)
  t_SHORT_OFFSET : Tok
  c_SHORT_OFFSET : mg "SHORT_OFFSET" = some (.int 8 t_SHORT_OFFSET)
  t_SHORT_LOW : Tok
  c_SHORT_LOW : mg "SHORT_LOW" = some (.int (-8) t_SHORT_LOW)
  t_SHORT_HIGH : Tok
  c_SHORT_HIGH : mg "SHORT_HIGH" = some (.int 7 t_SHORT_HIGH)
  a_PLAIN_VERBS : Addr
  c_PLAIN_VERBS : mg "PLAIN_VERBS" = some (.ref a_PLAIN_VERBS)
  s_PLAIN_VERBS : ∀ H, SqT K H a_PLAIN_VERBS ((["beat", "back", "tell", "keep", "fetch"] : List Str).map V.str)
  y_PLAIN_VERBS : ∀ H, tyV K "tuple" (.ref a_PLAIN_VERBS) H
  a_PLACED_VERBS : Addr
  c_PLACED_VERBS : mg "PLACED_VERBS" = some (.ref a_PLACED_VERBS)
  s_PLACED_VERBS : ∀ H, SqT K H a_PLACED_VERBS ((["div", "rem", "call"] : List Str).map V.str)
  z_len : mg "len" = none
  z_enumerate : mg "enumerate" = none
  z_int : mg "int" = none
  z_isinstance : mg "isinstance" = none
  z_tuple : mg "tuple" = none
  z_repr : mg "repr" = none
  z_range : mg "range" = none
  z_list : mg "list" = none
  z_min : mg "min" = none
  z_max : mg "max" = none
  z_sorted : mg "sorted" = none
theorem hu1 {A : Around} {k : Nat} (hr : Room k A) : A.units + 1 < cLine := by have := hr.un; omega
/-! ### things: lengths and jumps -/
inductive Th where
  | len (n : Int)
  | jmp (t : Nat)
def Th.d : Th → PyData
  | .len n => .int n
  | .jmp t => .tuple [.str "jump", .int t]
def Th.isJ : Th → Bool
  | .len _ => false
  | .jmp _ => true
def ck (cs : List Nat) : List (Key × V) := cs.map fun (i : Nat) => (Sum.inl (i : Int), V.bl true)
def lenT (cs : List Nat) (i : Nat) : Th → Int
  | .len n => n
  | .jmp _ => 1 + (if i ∈ cs then 1 else 0)
def addrAt (cs : List Nat) (ts : List Th) : Nat → Int
  | 0 => 0
  | k + 1 => addrAt cs ts k + lenT cs k (ts.getD k (.len 0))
def addrsTo (cs : List Nat) (ts : List Th) (n : Nat) : List Int := (List.range (n + 1)).map (addrAt cs ts)
def addrs (cs : List Nat) (ts : List Th) : List Int := addrsTo cs ts ts.length
theorem addrsTo_len (cs : List Nat) (ts : List Th) (n : Nat) : (addrsTo cs ts n).length = n + 1 := by unfold addrsTo; rw [List.length_map, List.length_range]
theorem addrsTo_at {cs : List Nat} {ts : List Th} {n k : Nat} (h : k ≤ n) : (addrsTo cs ts n).getD k 0 = addrAt cs ts k := by
  unfold addrsTo
  rw [List.getD_eq_getElem?_getD, List.getElem?_map, List.getElem?_range (by omega)]
  rfl
def spJ (K : PySem.W.Frag) : Sp := fun vs H Q _ => ∃ (x : V) (t : Th), vs = [x] ∧ Dp K H x t.d ∧ Q (.bl t.isJ) H
def spAddr (K : PySem.W.Frag) : Sp := fun vs H Q _ => ∃ (x : V) (c : Addr) (ts : List Th) (cs : List Nat), vs = [x, .ref c] ∧ Dp K H x (.tuple (ts.map Th.d)) ∧ H c = some (.dK (ck cs)) ∧ ts.length ≤ 2000 ∧
  ∀ p H', Same H H' → H p = none → H' p = some (.lst (iV (addrs cs ts))) → Q (.ref p) H'
theorem ck_val (cs : List Nat) (i : Nat) : (valV (ck cs) (Sum.inl (i : Int))).isSome = decide (i ∈ cs) := by
  induction cs with
  | nil => rfl
  | cons c cs ih =>
    show (valV ((Sum.inl (c : Int), V.bl true) :: ck cs) (Sum.inl (i : Int))).isSome = _
    by_cases e : c = i
    · rw [valV_pos (by rw [e]), e]; simp
    · rw [valV_neg (fun z => e (by have := Sum.inl.inj z; omega)), ih]
      have : i ≠ c := fun z => e z.symm
      simp [this]
theorem th_get {K : PySem.W.Frag} {H : Hp} {xs : List V} {ts : List Th} {i : Nat} {z : V} (h : DpAll K H xs (ts.map Th.d)) (e : xs[i]? = some z) : ∃ t, ts[i]? = some t ∧ Dp K H z t.d := by
  obtain ⟨d, _, e1, h1⟩ := dp_get h e
  rw [List.getElem?_map] at e1
  cases c : ts[i]? with
  | none => rw [c] at e1; cases e1
  | some t =>
    rw [c] at e1
    obtain rfl : t.d = d := Option.some.inj e1
    exact ⟨t, rfl, h1⟩
theorem tup_inv {K : PySem.W.Frag} {H : Hp} {x : V} {ds : List PyData} (h : Dp K H x (.tuple ds)) : ∃ (a : Addr) (xs : List V), x = .ref a ∧ SqT K H a xs ∧ DpAll K H xs ds := by
  cases h with
  | tup h a => exact ⟨_, _, rfl, h, a⟩
end Lk

set_option Elab.async false
set_option linter.all false
set_option maxRecDepth 100000
set_option maxHeartbeats 4000000
namespace Lk
open PySem PySem.Spec PyProof.Rows L2
section
variable {P : Program} {w : World} {K : PySem.W.Frag} {mg : Str → Option Value} {base : Heap}
theorem kit_tup {K : PySem.W.Frag} {H : Hp} {v : V} {d : PyData} (h : Dp K H v d) : PySem.W.kitOne K (.type (tyN d)) (.type "tuple") = some (match d with | .tuple _ => true | _ => false) := by
  cases h with
  | non => exact kit_ty (a := "NoneType") (b := "tuple") (r := false) (by decide +kernel)
  | bl b => exact kit_ty (a := "bool") (b := "tuple") (r := false) (by decide +kernel)
  | int i => exact kit_ty (a := "int") (b := "tuple") (r := false) (by decide +kernel)
  | str x => exact kit_ty (a := "str") (b := "tuple") (r := false) (by decide +kernel)
  | lst h a => exact kit_ty (a := "list") (b := "tuple") (r := false) (by decide +kernel)
  | tup h a => exact kit_ty (a := "tuple") (b := "tuple") (r := true) (by decide +kernel)
theorem ok_is_jump (T : Txt K mg) : FnOk P w K mg base CX0 1 T.f_is_jump T.d_is_jump ["thing"] (spJ K) := by
  have nd := sc_is_jump.nd
  refine T.F_is_jump.ok sc_is_jump (fun vs H Q E h => ?_) (fun cdv A outer s H vs Q E hr h => ?_)
  · obtain ⟨x, t, rfl, _⟩ := h
    rfl
  obtain ⟨x, t, rfl, hd, k⟩ := h
  refine ⟨_, (pss_one (ps_ret (pe_callB call_isi (by rfl) T.z_isinstance (by decide +kernel) (pa_cons (pv 0) (pa_cons (pe_bltn (v := .ty "tuple") rfl T.z_tuple (by decide +kernel) rfl) pa_nil))))), ?_⟩
  refine ⟨_, rfl, x, .ty "tuple", _, _, _, rfl, .ty "tuple", ty_of hd, kit_tup hd, ?_⟩
  cases t with
  | len n => exact k
  | jmp t => exact k
theorem ok_addresses (T : Txt K mg) : FnOk P w K mg base CX0 2 T.f_addresses_of T.d_addresses_of ["things", "chosen"] (spAddr K) := by
  have nd := sc_addresses_of.nd
  refine T.F_addresses_of.ok sc_addresses_of (fun vs H Q E h => ?_) (fun cdv A outer s H vs Q E hr h => ?_)
  · obtain ⟨x, c, ts, cs, rfl, _⟩ := h
    rfl
  obtain ⟨x, c, ts, cs, rfl, hd, hc, hts, k⟩ := h
  have G_is_jump : FnOk P w K mg base CX0 1 _ _ _ (spJ K) := ok_is_jump T
  have hr_is_jump := hr
  refine ⟨_, (pss_cons (ps_set (i := 2) nd rfl (Or.inl rfl) (pe_lst (pa_cons pe_int pa_nil)))
      (pss_cons (ps_for PassesOwn.never rfl (pi_enumT (by rfl) T.z_enumerate (pa_cons (pv 0) pa_nil)) (pg_tup rfl (pgs_cons (pg_name (i := 3) nd rfl (Or.inl rfl)) (pgs_cons (pg_name (i := 4) nd rfl (Or.inl rfl)) pgs_nil)))
      (pss_cons (ps_set (i := 5) nd rfl (Or.inl rfl) (pv 4))
      (pss_cons (ps_if (pt_val (pe_call G_is_jump hr_is_jump rfl T.m_is_jump T.k_is_jump T.b_is_jump .nil pass0 (pa_cons (pv 4) pa_nil))) (pss_one (ps_set (i := 5) nd rfl (Or.inl rfl) (pe_op op_add pe_int (pe_callTy call_int1 (by rfl) T.z_int (by decide +kernel) (pa_cons (pe_cmp (pc_din (hu1 hr) (pv 3) (pv 1)) (by rfl)) pa_nil))))) pss_nil)
      (pss_one (ps_expr (pe_bm PySem.F.plainAttrs_list PySem.F.slot_list_append PySem.F.type_list_append mt_append (pv 2) (pa_cons (pe_op op_add (pe_ix ix_list (pv 2) (pe_un un_neg pe_int) (fun _ _ => rfl)) (pv 5)) pa_nil)))))))
      (pss_one (ps_ret (pv 2))))), ?_⟩
  obtain ⟨a, xs, rfl, ha, hx⟩ := tup_inv hd
  have hl : xs.length = ts.length := by rw [dp_len hx, List.length_map]
  refine ⟨(by show 1 ≤ sizeLine; decide), fun p hp => ?_⟩
  have ncp : c ≠ p := fun z => by rw [← z, hc] at hp; cases hp
  have s0 := same_new hp (.lst [.int 0])
  refine ⟨_, rfl, a, xs, rfl, seqT_same s0 ha, ?_⟩
  refine for_it (walk_enumT (K := K) (a := a) (xs := xs)) (fun i σ H' => ∃ (o3 o4 o5 : Option V), σ = [some (.ref a), some (.ref c), some (.ref p), o3, o4, o5] ∧ Same H H' ∧ H' p = some (.lst (iV (addrsTo cs ts i)))) ?_ ?_ ?_ ?_
  · exact ⟨none, none, none, rfl, s0, upd_same⟩
  · rintro i σ H' _ ⟨o3, o4, o5, _, e, _⟩
    exact seqT_same e ha
  · rintro i y σ H3 H4 hi ⟨o3, o4, o5, rfl, e, ep⟩ ⟨TT, y1, z, rfl, hTT, rfl, hy, hz⟩
    obtain rfl : V.int (i : Nat) = y1 := Option.some.inj hy
    obtain ⟨t, ht, hdz⟩ := th_get hx hz
    have e4 : Same H (upd H3 TT (.tup [.int (i : Nat), z])) := e.trans (same_new hTT _)
    have npT : p ≠ TT := fun q => by rw [← q, ep] at hTT; cases hTT
    have ep4 : (upd H3 TT (.tup [.int (i : Nat), z])) p = some (.lst (iV (addrsTo cs ts i))) := by rw [upd_ne npT]; exact ep
    refine ⟨TT, _, rfl, SqT.of upd_same, rfl, _, _, rfl, _, _, rfl, rfl, ?_⟩
    have hi2 : i < ts.length := by omega
    have tg : ts.getD i (.len 0) = t := by rw [List.getD_eq_getElem?_getD, ht]; rfl
    have step : addrsTo cs ts (i + 1) = addrsTo cs ts i ++ [addrAt cs ts i + lenT cs i t] := by
      unfold addrsTo
      rw [List.range_succ, List.map_append]
      show _ ++ [addrAt cs ts i + lenT cs i (ts.getD i (.len 0))] = _
      rw [tg]
    have last : atI (iV (addrsTo cs ts i)) (-1) = some (V.int (addrAt cs ts i)) := by
      have : addrsTo cs ts i = (List.range i).map (addrAt cs ts) ++ [addrAt cs ts i] := by
        unfold addrsTo
        rw [List.range_succ, List.map_append]
        rfl
      rw [this, ← iV_app]
      exact atI_last _ _
    refine ⟨_, rfl, ?_⟩
    have hdz4 := dp_same e4 (dp_same (Same.refl H) hdz)
    refine ⟨_, rfl, z, t, rfl, hdz4, _, rfl, ?_⟩
    cases t with
    | len n =>
      obtain rfl : z = .int n := by cases hdz4; rfl
      refine iteF ?_
      refine ⟨_, rfl, .inl ⟨rfl, _, SqL.of ep4⟩, _, rfl, 1, rfl, p, _, _, _, rfl, rfl, SqL.of ep4, last, _, rfl, _, _, rfl, rfl, p, _, _, rfl, rfl, ep4, (by rw [iV_len, addrsTo_len]; exact szl (by omega)), ?_⟩
      refine ⟨_, _, _, rfl, same_mut e4 hp, ?_⟩
      rw [upd_same, iV_app, step]
      rfl
    | jmp j =>
      refine iteT ?_
      have dg : DGet (upd H3 TT (.tup [.int (i : Nat), z])) c (.int (i : Nat)) (valV (ck cs) (Sum.inl (i : Int))) := .inl ⟨_, Sum.inl (i : Int), .inl (e4 _ _ hc), rfl, rfl⟩
      refine ⟨_, rfl, _, rfl, c, _, rfl, dg, .inr ⟨_, rfl, _, _, rfl, rfl, ?_⟩⟩
      rw [ck_val]
      refine ⟨_, rfl, .inl ⟨rfl, _, SqL.of ep4⟩, _, rfl, 1, rfl, p, _, _, _, rfl, rfl, SqL.of ep4, last, _, rfl, _, _, rfl, rfl, p, _, _, rfl, rfl, ep4, (by rw [iV_len, addrsTo_len]; exact szl (by omega)), ?_⟩
      refine ⟨_, _, _, rfl, same_mut e4 hp, ?_⟩
      rw [upd_same, iV_app, step]
      show some (HO.lst (iV (addrsTo cs ts i ++ [addrAt cs ts i + (1 + if decide (i ∈ cs) = true then 1 else 0)]))) = some (HO.lst (iV (addrsTo cs ts i ++ [addrAt cs ts i + (1 + if i ∈ cs then 1 else 0)])))
      by_cases m : i ∈ cs
      · rw [if_pos (decide_eq_true m), if_pos m]
      · rw [if_neg (by rw [decide_eq_false m]; exact Bool.false_ne_true), if_neg m]
  · rintro σ H' ⟨o3, o4, o5, rfl, e, ep⟩
    rw [hl] at ep
    exact ⟨_, rfl, k p H' e hp ep⟩
end
end Lk

set_option Elab.async false
set_option linter.all false
set_option maxRecDepth 100000
set_option maxHeartbeats 4000000
namespace Lk
open PySem PySem.Spec PyProof.Rows L2
theorem iV_at {ws : List Int} {j : Nat} (h : j < ws.length) : (iV ws)[j]? = some (.int (ws.getD j 0)) := by
  unfold iV
  rw [List.getElem?_map, List.getElem?_eq_getElem h, List.getD_eq_getElem?_getD, List.getElem?_eq_getElem h]
  rfl
def isFar (cs : List Nat) (ts : List Th) (low high : Int) (i : Nat) : Bool := match ts.getD i (.len 0) with
  | .len _ => false
  | .jmp t => decide (i ∉ cs) && !(decide (low ≤ addrAt cs ts t - addrAt cs ts i) && decide (addrAt cs ts t - addrAt cs ts i ≤ high))
def farTo (cs : List Nat) (ts : List Th) (low high : Int) (n : Nat) : List Nat := (List.range n).filter (isFar cs ts low high)
def farL (cs : List Nat) (ts : List Th) (low high : Int) : List Nat := farTo cs ts low high ts.length
def GoodTs (ts : List Th) : Prop := ∀ i t, ts.getD i (.len 0) = .jmp t → t ≤ ts.length
def nV (ns : List Nat) : List V := ns.map fun (i : Nat) => V.int (i : Int)
theorem farTo_succ (cs : List Nat) (ts : List Th) (low high : Int) (n : Nat) : farTo cs ts low high (n + 1) = farTo cs ts low high n ++ (if isFar cs ts low high n = true then [n] else []) := by
  unfold farTo
  rw [List.range_succ, List.filter_append]
  congr 1
  by_cases c : isFar cs ts low high n = true
  · rw [if_pos c, List.filter_cons_of_pos c]; rfl
  · rw [if_neg c, List.filter_cons_of_neg c]; rfl
def spFar (K : PySem.W.Frag) : Sp := fun vs H Q _ => ∃ (x : V) (c : Addr) (low high : Int) (ts : List Th) (cs : List Nat), vs = [x, .int low, .int high, .ref c] ∧ Dp K H x (.tuple (ts.map Th.d)) ∧ H c = some (.dK (ck cs)) ∧ ts.length ≤ 2000 ∧ GoodTs ts ∧
  ∀ p H', Same H H' → H p = none → H' p = some (.lst (nV (farL cs ts low high))) → Q (.ref p) H'
section
variable {P : Program} {w : World} {K : PySem.W.Frag} {mg : Str → Option Value} {base : Heap}
theorem dp_nth {H : Hp} {xs : List V} {ds : List PyData} {i : Nat} (h : DpAll K H xs ds) (hi : i < ds.length) : ∃ v, xs[i]? = some v ∧ Dp K H v ds[i] := by
  have hl := dp_len h
  have h2 : i < xs.length := by omega
  obtain ⟨d, _, e, q⟩ := dp_get h (List.getElem?_eq_getElem h2)
  rw [List.getElem?_eq_getElem hi] at e
  obtain rfl := Option.some.inj e
  exact ⟨_, List.getElem?_eq_getElem h2, q⟩
theorem none_of {H H1 : Hp} {d : Addr} (e : Same H H1) (h : H1 d = none) : H d = none := by
  cases q : H d with
  | none => rfl
  | some o => rw [e d o q] at h; cases h
theorem ok_too_far (T : Txt K mg) : FnOk P w K mg base CX0 3 T.f__too_far T.d__too_far ["things", "low", "high", "chosen"] (spFar K) := by
  have nd := sc__too_far.nd
  refine T.F__too_far.ok sc__too_far (fun vs H Q E h => ?_) (fun cdv A outer s H vs Q E hr h => ?_)
  · obtain ⟨x, c, low, high, ts, cs, rfl, _⟩ := h
    rfl
  obtain ⟨x, c, low, high, ts, cs, rfl, hd, hc, hts, hg, k⟩ := h
  have G_is_jump : FnOk P w K mg base CX0 1 _ _ _ (spJ K) := ok_is_jump T
  have hr_is_jump := hr.mono (show 1 ≤ 2 by omega)
  have G_addresses_of : FnOk P w K mg base CX0 2 _ _ _ (spAddr K) := ok_addresses T
  have hr_addresses_of := hr
  refine ⟨_, (pss_cons (ps_set (i := 4) nd rfl (Or.inl rfl) (pe_call G_addresses_of hr_addresses_of rfl T.m_addresses_of T.k_addresses_of T.b_addresses_of .nil pass0 (pa_cons (pv 0) (pa_cons (pv 3) pa_nil))))
      (pss_cons (ps_set (i := 5) nd rfl (Or.inl rfl) (pe_lst pa_nil))
      (pss_cons (ps_for PassesOwn.never rfl (pi_enumT (by rfl) T.z_enumerate (pa_cons (pv 0) pa_nil)) (pg_tup rfl (pgs_cons (pg_name (i := 6) nd rfl (Or.inl rfl)) (pgs_cons (pg_name (i := 7) nd rfl (Or.inl rfl)) pgs_nil)))
      (pss_one (ps_if (PW.pt (pw_and (pt_val (pe_call G_is_jump hr_is_jump rfl T.m_is_jump T.k_is_jump T.b_is_jump .nil pass0 (pa_cons (pv 7) pa_nil))) (pw_and (pt_cmp (pc_dnotin (hu1 hr) (pv 6) (pv 3)) (by rfl)) (pw_and1 (pt_not (pt_chain op_le op_le (pv 1) (pe_op op_sub (pe_ix ix_list (pv 4) (pe_ix ix_tup (pv 7) pe_int (fun _ _ => rfl)) (fun _ _ => rfl)) (pe_ix ix_list (pv 4) (pv 6) (fun _ _ => rfl))) (pv 2))))))) (pss_one (ps_expr (pe_bm PySem.F.plainAttrs_list PySem.F.slot_list_append PySem.F.type_list_append mt_append (pv 5) (pa_cons (pv 6) pa_nil)))) pss_nil)))
      (pss_one (ps_ret (pv 5)))))), ?_⟩
  refine ⟨_, rfl, _, rfl, x, c, ts, cs, rfl, hd, hc, hts, fun pa H1 e1 hpa ea => ?_⟩
  obtain ⟨a, xs, rfl, ha, hx⟩ := tup_inv (dp_same e1 hd)
  have hl : xs.length = ts.length := by rw [dp_len hx, List.length_map]
  refine ⟨(by show 0 ≤ sizeLine; decide), fun pf hpf => ?_⟩
  have s0 := same_new hpf (.lst [])
  have naf : pa ≠ pf := fun z => by rw [← z, ea] at hpf; cases hpf
  have pf0 := none_of e1 hpf
  refine ⟨_, rfl, a, xs, rfl, seqT_same s0 ha, ?_⟩
  refine for_it (walk_enumT (K := K) (a := a) (xs := xs)) (fun i σ H' => ∃ (o6 o7 : Option V), σ = [some (.ref a), some (.int low), some (.int high), some (.ref c), some (.ref pa), some (.ref pf), o6, o7] ∧ Same H1 H' ∧ H' pf = some (.lst (nV (farTo cs ts low high i)))) ?_ ?_ ?_ ?_
  · exact ⟨none, none, rfl, s0, upd_same⟩
  · rintro i σ H' _ ⟨_, _, _, e, _⟩
    exact seqT_same e ha
  · rintro i y σ H3 H4 hi ⟨o6, o7, rfl, e, ep⟩ ⟨TT, y1, z, rfl, hTT, rfl, hy, hz⟩
    obtain rfl : V.int (i : Nat) = y1 := Option.some.inj hy
    obtain ⟨t, ht, hdz⟩ := th_get hx hz
    have e4 : Same H1 (upd H3 TT (.tup [.int (i : Nat), z])) := e.trans (same_new hTT _)
    have npT : pf ≠ TT := fun q => by rw [← q, ep] at hTT; cases hTT
    have ep4 : (upd H3 TT (.tup [.int (i : Nat), z])) pf = some (.lst (nV (farTo cs ts low high i))) := by rw [upd_ne npT]; exact ep
    have hi2 : i < ts.length := by omega
    have tg : ts.getD i (.len 0) = t := by rw [List.getD_eq_getElem?_getD, ht]; rfl
    have hdz4 := dp_same e4 hdz
    refine ⟨TT, _, rfl, SqT.of upd_same, rfl, _, _, rfl, _, _, rfl, rfl, ?_⟩
    have skip : isFar cs ts low high i = false → H3 = H3 → ∃ (o6 o7 : Option V), [some (V.ref a), some (.int low), some (.int high), some (.ref c), some (.ref pa), some (.ref pf), some (V.int (i : Nat)), some z] = [some (.ref a), some (.int low), some (.int high), some (.ref c), some (.ref pa), some (.ref pf), o6, o7] ∧
        Same H1 (upd H3 TT (.tup [.int (i : Nat), z])) ∧ (upd H3 TT (.tup [.int (i : Nat), z])) pf = some (.lst (nV (farTo cs ts low high (i + 1)))) := fun q _ => by
      refine ⟨_, _, rfl, e4, ?_⟩
      rw [farTo_succ, if_neg (by rw [q]; exact Bool.false_ne_true), List.append_nil]
      exact ep4
    refine ⟨_, rfl, z, t, rfl, hdz4, _, rfl, ?_⟩
    cases t with
    | len n =>
      refine iteF ?_
      refine iteF ?_
      exact skip (by unfold isFar; rw [tg]) rfl
    | jmp j =>
      refine iteT ?_
      have dg : DGet (upd H3 TT (.tup [.int (i : Nat), z])) c (.int (i : Nat)) (valV (ck cs) (Sum.inl (i : Int))) := .inl ⟨_, Sum.inl (i : Int), .inl ((e1.trans e4) _ _ hc), rfl, rfl⟩
      refine ⟨_, rfl, _, rfl, c, _, rfl, dg, _, rfl, ?_⟩
      rw [ck_val]
      by_cases m : i ∈ cs
      · refine ifF (by rw [decide_eq_true m]; rfl) ?_
        refine iteF ?_
        exact skip (by unfold isFar; rw [tg, decide_eq_false (not_not_intro m)]; rfl) rfl
      · refine ifT (by rw [decide_eq_false m]; rfl) ?_
        have hj : j ≤ ts.length := hg i j tg
        obtain ⟨ap, zs, rfl, hap, hzs⟩ := tup_inv hdz4
        obtain ⟨v1, ev1, hv1⟩ := dp_nth hzs (i := 1) (Nat.lt_succ_self _)
        obtain rfl : v1 = .int (j : Int) := by cases hv1; rfl
        have hz1 : atI zs 1 = some (V.int (j : Int)) := atI_nat (j := 1) ev1
        have ea4 := e4 _ _ ea
        have atj : atI (iV (addrs cs ts)) (j : Int) = some (V.int (addrAt cs ts j)) := by
          refine atI_nat ?_
          rw [iV_at (by unfold addrs; rw [addrsTo_len]; omega)]
          unfold addrs
          rw [addrsTo_at hj]
        have ati : atI (iV (addrs cs ts)) (i : Int) = some (V.int (addrAt cs ts i)) := by
          refine atI_nat ?_
          rw [iV_at (by unfold addrs; rw [addrsTo_len]; omega)]
          unfold addrs
          rw [addrsTo_at (by omega)]
        have fe : isFar cs ts low high i = !(decide (low ≤ addrAt cs ts j - addrAt cs ts i) && decide (addrAt cs ts j - addrAt cs ts i ≤ high)) := by
          unfold isFar; rw [tg]
          show (decide (i ∉ cs) && _) = _
          rw [decide_eq_true m, Bool.true_and]
        have add : isFar cs ts low high i = true → ∃ (o6 o7 : Option V), [some (V.ref a), some (.int low), some (.int high), some (.ref c), some (.ref pa), some (.ref pf), some (V.int (i : Nat)), some (.ref ap)] = [some (.ref a), some (.int low), some (.int high), some (.ref c), some (.ref pa), some (.ref pf), o6, o7] ∧
            Same H1 (upd (upd H3 TT (.tup [.int (i : Nat), .ref ap])) pf (.lst (nV (farTo cs ts low high i) ++ [.int (i : Nat)]))) ∧ (upd (upd H3 TT (.tup [.int (i : Nat), .ref ap])) pf (.lst (nV (farTo cs ts low high i) ++ [.int (i : Nat)]))) pf = some (.lst (nV (farTo cs ts low high (i + 1)))) := fun q => by
          refine ⟨_, _, rfl, same_mut e4 hpf, ?_⟩
          rw [upd_same, farTo_succ, if_pos q]
          unfold nV
          rw [List.map_append]
          rfl
        have few : (nV (farTo cs ts low high i)).length < sizeLine := by
          unfold nV farTo
          rw [List.length_map]
          exact szl (Nat.le_trans (List.length_filter_le _ _) (by rw [List.length_range]; omega))
        refine ⟨_, rfl, _, rfl, _, rfl, ap, _, _, _, rfl, rfl, hap, hz1, pa, _, _, _, rfl, rfl, SqL.of ea4, atj, _, rfl, _, rfl, pa, _, _, _, rfl, rfl, SqL.of ea4, ati, _, _, rfl, rfl, _, _, rfl, rfl, _, rfl, ?_⟩
        by_cases c1 : low ≤ addrAt cs ts j - addrAt cs ts i
        · refine ifT (decide_eq_true c1) ?_
          refine ⟨_, rfl, _, _, rfl, rfl, _, rfl, ?_⟩
          by_cases c2 : addrAt cs ts j - addrAt cs ts i ≤ high
          · rw [decide_eq_true c2]
            refine iteF ?_
            exact skip (by rw [fe, decide_eq_true c1, decide_eq_true c2]; rfl) rfl
          · rw [decide_eq_false c2]
            refine iteT ?_
            refine ⟨_, rfl, .inl ⟨rfl, _, SqL.of ep4⟩, _, rfl, pf, _, _, rfl, rfl, ep4, few, ?_⟩
            exact add (by rw [fe, decide_eq_true c1, decide_eq_false c2]; rfl)
        · refine ifF (decide_eq_false c1) ?_
          refine ⟨_, rfl, ?_⟩
          refine iteT ?_
          refine ⟨_, rfl, .inl ⟨rfl, _, SqL.of ep4⟩, _, rfl, pf, _, _, rfl, rfl, ep4, few, ?_⟩
          exact add (by rw [fe, decide_eq_false c1]; rfl)
  · rintro σ H' ⟨o6, o7, rfl, e, ep⟩
    rw [hl] at ep
    exact ⟨_, rfl, k pf H' (e1.trans e) pf0 ep⟩
end
end Lk

set_option Elab.async false
set_option linter.all false
set_option maxRecDepth 100000
set_option maxHeartbeats 4000000
namespace Lk
open PySem PySem.Spec PyProof.Rows L2
theorem farL_mem {cs : List Nat} {ts : List Th} {low high : Int} {i : Nat} (h : i ∈ farL cs ts low high) : i < ts.length ∧ i ∉ cs := by
  obtain ⟨h1, h2⟩ := List.mem_filter.mp h
  refine ⟨List.mem_range.mp h1, fun m => ?_⟩
  unfold isFar at h2
  split at h2
  · cases h2
  · rw [decide_eq_false (not_not_intro m)] at h2; cases h2
theorem farL_nodup (cs : List Nat) (ts : List Th) (low high : Int) : (farL cs ts low high).Nodup := List.nodup_range.filter _
def leastN (ts : List Th) (low high : Int) : Nat → List Nat → List Nat
  | 0, cs => cs
  | n + 1, cs => match farL cs ts low high with
    | [] => cs
    | f :: fs => leastN ts low high n (cs ++ f :: fs)
def leastL (ts : List Th) (low high : Int) : List Nat := leastN ts low high (ts.length + 1) []
theorem len_le_nat : ∀ {l T : List Nat}, l.Nodup → (∀ x ∈ l, x ∈ T) → l.length ≤ T.length
  | [], _, _, _ => Nat.zero_le _
  | x :: l, T, hn, hs => by
    have hx := hs x List.mem_cons_self
    have hn' := List.nodup_cons.mp hn
    have := len_le_nat (T := T.erase x) hn'.2 fun y m => (List.mem_erase_of_ne (show y ≠ x from fun e => hn'.1 (by rw [← e]; exact m))).mpr (hs y (List.mem_cons_of_mem _ m))
    rw [List.length_erase_of_mem hx] at this
    have := List.length_pos_of_mem hx
    simp only [List.length_cons]
    omega
theorem few_nat {l : List Nat} {n : Nat} (hn : l.Nodup) (h : ∀ x ∈ l, x < n) : l.length ≤ n := by
  have := len_le_nat hn (T := List.range n) fun x m => List.mem_range.mpr (h x m)
  rw [List.length_range] at this
  exact this
def spLeast (K : PySem.W.Frag) : Sp := fun vs H Q _ => ∃ (x : V) (low high : Int) (ts : List Th), vs = [x, .int low, .int high] ∧ Dp K H x (.tuple (ts.map Th.d)) ∧ ts.length ≤ 2000 ∧ GoodTs ts ∧
  ∀ p H', Same H H' → H p = none → H' p = some (.dK (ck (leastL ts low high))) → Q (.ref p) H'
section
variable {P : Program} {w : World} {K : PySem.W.Frag} {mg : Str → Option Value} {base : Heap}
theorem ok_least (T : Txt K mg) : FnOk P w K mg base CX0 4 T.f_least_long T.d_least_long ["things", "low", "high"] (spLeast K) := by
  have nd := sc_least_long.nd
  refine T.F_least_long.ok sc_least_long (fun vs H Q E h => ?_) (fun cdv A outer s H vs Q E hr h => ?_)
  · obtain ⟨x, low, high, ts, rfl, _⟩ := h
    rfl
  obtain ⟨x, low, high, ts, rfl, hd, hts, hg, k⟩ := h
  have G__too_far : FnOk P w K mg base CX0 3 _ _ _ (spFar K) := ok_too_far T
  have hr__too_far := hr
  refine ⟨_, (pss_cons (ps_set (i := 3) nd rfl (Or.inl rfl) pe_dnewK)
      (pss_cons (ps_set (i := 4) nd rfl (Or.inl rfl) (pe_call G__too_far hr__too_far rfl T.m__too_far T.k__too_far T.b__too_far .nil pass0 (pa_cons (pv 0) (pa_cons (pv 1) (pa_cons (pv 2) (pa_cons (pv 3) pa_nil))))))
      (pss_cons (ps_while PassesOwn.never (pt_cmpR op_gt (pe_callB call_len_seq (by rfl) T.z_len PySem.boot_len (pa_cons (pv 4) pa_nil)) pe_int (nomark _)) (pss_cons (ps_for PassesOwn.never rfl (pi_list (pv 4)) (pg_name (i := 5) nd rfl (Or.inl rfl))
      (pss_one (ps_dput (hu1 hr) (pv 3) (pv 5) pe_bl rfl)))
      (pss_one (ps_set (i := 4) nd rfl (Or.inl rfl) (pe_call G__too_far hr__too_far rfl T.m__too_far T.k__too_far T.b__too_far .nil pass0 (pa_cons (pv 0) (pa_cons (pv 1) (pa_cons (pv 2) (pa_cons (pv 3) pa_nil)))))))))
      (pss_one (ps_ret (pv 3)))))), ?_⟩
  refine fun c hc => ?_
  have e0 : Same H (upd H c (.dK [])) := same_new hc _
  refine ⟨_, rfl, _, rfl, _, rfl, _, rfl, x, c, low, high, ts, [], rfl, dp_same e0 hd, upd_same, hts, hg, fun f H1 e1 hf ef => ?_⟩
  refine ⟨fun m σ H' => ∃ (cs : List Nat) (n : Nat) (f : Addr) (o5 : Option V), σ = [some x, some (.int low), some (.int high), some (.ref c), some (.ref f), o5] ∧ m = ts.length - cs.length ∧ Same H H' ∧ H' c = some (.dK (ck cs)) ∧ H' f = some (.lst (nV (farL cs ts low high))) ∧
    cs.Nodup ∧ (∀ i ∈ cs, i < ts.length) ∧ leastN ts low high n cs = leastL ts low high ∧ ts.length + 1 ≤ n + cs.length, ⟨_, [], ts.length + 1, f, none, rfl, rfl, e0.trans e1, e1 _ _ upd_same, ef, List.nodup_nil, (fun _ m => nomatch m), rfl, Nat.le_refl _⟩, ?_⟩
  rintro m σ H' ⟨cs, n, f, o5, rfl, rfl, e, ec, ef, nd1, hlt, hN, hn⟩
  have hcl := few_nat nd1 hlt
  obtain ⟨n', rfl⟩ : ∃ n', n = n' + 1 := ⟨n - 1, by omega⟩
  refine ⟨_, rfl, f, _, rfl, .inl (SqL.of ef), _, _, rfl, rfl, _, rfl, ?_⟩
  cases efar : farL cs ts low high with
  | nil =>
    refine iteF ?_
    have : leastN ts low high (n' + 1) cs = cs := by rw [leastN, efar]
    rw [this] at hN
    rw [hN] at ec
    exact ⟨_, rfl, k c H' e hc ec⟩
  | cons f0 fr =>
    refine ifT (decide_eq_true (show (0 : Int) < ((nV (f0 :: fr)).length : Int) by unfold nV; rw [List.length_map, List.length_cons]; omega)) ?_
    have hN' : leastN ts low high n' (cs ++ f0 :: fr) = leastL ts low high := by rw [← hN, leastN, efar]
    have nd2 : (cs ++ f0 :: fr).Nodup := by
      rw [← efar]
      exact List.nodup_append.mpr ⟨nd1, farL_nodup .., fun a ma b mb q => (farL_mem mb).2 (q ▸ ma)⟩
    have hlt2 : ∀ i ∈ cs ++ f0 :: fr, i < ts.length := fun i mi => by
      rw [← efar] at mi
      exact (List.mem_append.mp mi).elim (hlt i) fun h => (farL_mem h).1
    have hcl2 := few_nat nd2 hlt2
    rw [efar] at ef
    refine ⟨fun σ' H'' => ∃ m', m' < ts.length - cs.length ∧ (∃ (cs : List Nat) (n : Nat) (f : Addr) (o5 : Option V), σ' = [some x, some (.int low), some (.int high), some (.ref c), some (.ref f), o5] ∧ m' = ts.length - cs.length ∧ Same H H'' ∧ H'' c = some (.dK (ck cs)) ∧ H'' f = some (.lst (nV (farL cs ts low high))) ∧
      cs.Nodup ∧ (∀ i ∈ cs, i < ts.length) ∧ leastN ts low high n cs = leastL ts low high ∧ ts.length + 1 ≤ n + cs.length), fun _ _ z => z, ?_⟩
    refine ⟨_, rfl, f, rfl, ⟨_, SqL.of ef⟩, ?_⟩
    refine for_list (K := K) (a := f) (xs := nV (f0 :: fr)) (fun i σ H2 => ∃ o5, σ = [some x, some (.int low), some (.int high), some (.ref c), some (.ref f), o5] ∧ Same H H2 ∧ H2 c = some (.dK (ck (cs ++ (f0 :: fr).take i))) ∧ H2 f = some (.lst (nV (f0 :: fr)))) ?_ ?_ ?_ ?_
    · exact ⟨_, rfl, e, by rw [List.take_zero, List.append_nil]; exact ec, ef⟩
    · rintro i σ H2 _ ⟨_, _, _, _, h⟩
      exact SqL.of h
    · rintro i z σ H2 hiz ⟨o5, rfl, e2, ec2, ef2⟩
      obtain ⟨j, hj, rfl⟩ : ∃ j : Nat, (f0 :: fr)[i]? = some j ∧ z = .int (j : Int) := by
        unfold nV at hiz
        rw [List.getElem?_map] at hiz
        cases hh : (f0 :: fr)[i]? with
        | none => rw [hh] at hiz; cases hiz
        | some j => rw [hh] at hiz; exact ⟨j, rfl, (Option.some.inj hiz).symm⟩
      have hjn : j ∉ cs ++ (f0 :: fr).take i := by
        intro mj
        have ek : cs ++ f0 :: fr = (cs ++ (f0 :: fr).take i) ++ (f0 :: fr).drop i := by rw [List.append_assoc, List.take_append_drop]
        rw [ek] at nd2
        have il := (List.getElem?_eq_some_iff.mp hj).1
        have : j ∈ (f0 :: fr).drop i := by
          rw [List.drop_eq_getElem_cons il]
          rw [List.getElem?_eq_getElem il] at hj
          rw [Option.some.inj hj]
          exact List.mem_cons_self
        exact (List.nodup_append.mp nd2).2.2 j mj j this rfl
      have hvn : valV (ck (cs ++ (f0 :: fr).take i)) (Sum.inl (j : Int)) = none := by
        have := ck_val (cs ++ (f0 :: fr).take i) j
        rw [decide_eq_false hjn] at this
        cases hh : valV (ck (cs ++ (f0 :: fr).take i)) (Sum.inl (j : Int)) with
        | none => rfl
        | some v => rw [hh] at this; cases this
      refine ⟨_, rfl, _, rfl, c, _, rfl, DPut.k (k := Sum.inl (j : Int)) ec2 ?_, ?_⟩
      · unfold ck
        rw [List.length_map, List.length_append, List.length_take]
        rw [List.length_append] at hcl2
        exact szl (by omega)
      · rw [putK_new _ hvn]
        refine ⟨_, rfl, same_mut e2 hc, ?_, ?_⟩
        · rw [upd_same, List.take_succ, hj, ← List.append_assoc]
          unfold ck
          rw [List.map_append (l₁ := cs ++ (f0 :: fr).take i)]
          rfl
        · rw [upd_ne (fun q => by rw [q, ec2] at ef2; cases ef2)]; exact ef2
    · rintro σ H2 ⟨o5, rfl, e2, ec2, ef2⟩
      have ll : (nV (f0 :: fr)).length = (f0 :: fr).length := List.length_map _
      rw [ll, List.take_length] at ec2
      refine ⟨_, rfl, _, rfl, _, rfl, _, rfl, x, c, low, high, ts, cs ++ f0 :: fr, rfl, dp_same e2 hd, ec2, hts, hg, fun f' H3 e3 hf3 ef3 => ?_⟩
      rw [List.length_append] at hcl2
      simp only [List.length_cons] at hcl2
      exact ⟨_, by rw [List.length_append]; simp only [List.length_cons]; omega, cs ++ f0 :: fr, n', f', _, rfl, rfl, e2.trans e3, e3 _ _ ec2, ef3, nd2, hlt2, hN', by rw [List.length_append]; simp only [List.length_cons]; omega⟩
end
end Lk

set_option Elab.async false
set_option linter.all false
set_option maxRecDepth 100000
set_option maxHeartbeats 4000000
namespace Lk
open PySem PySem.Spec PyProof.Rows L2
def fdK (q : Addr) (p b t : Int) : List (Key × V) := [(Sum.inr "cells", .ref q), (Sum.inr "spot", .int p), (Sum.inr "left", .int b), (Sum.inr "turn", .int t)]
/-- the feed: its numbers at q, the spot, what is left of a great one, the turn -/
def Feed (K : PySem.W.Frag) (H : Hp) (l q : Addr) (ns : List Int) : Prop := ∃ (p b t : Int), H l = some (.dK (fdK q p b t)) ∧ SqL K (del H l) q (iV ns) ∧ 0 ≤ p ∧ ns.length ≤ 63
def spFeed (K : PySem.W.Frag) : Sp := fun vs H Q _ => ∃ (a : Addr) (ns : List Int), vs = [.ref a] ∧ SqL K H a (iV ns) ∧ ns.length ≤ 63 ∧ ∀ (p : Addr) (H' : Hp), Same H H' → ∀ q ns, H p = none → Feed K H' p q ns → Q (.ref p) H'
def spTake (K : PySem.W.Frag) : Sp := fun vs H Q _ => ∃ (l : Addr) (m : Int) (q : Addr) (ns : List Int), vs = [.ref l, .int m] ∧ Feed K H l q ns ∧ 0 < m ∧ m < 1000000 ∧ ∀ (r : Int) (H' : Hp), 0 ≤ r → r < m → Feed K H' l q ns → Same (del H l) (del H' l) → Q (.int r) H'
theorem fd_get {H : Hp} {l q : Addr} {p b t : Int} (h : H l = some (.dK (fdK q p b t))) : DGet H l (.str "cells") (some (.ref q)) ∧ DGet H l (.str "spot") (some (.int p)) ∧ DGet H l (.str "left") (some (.int b)) ∧ DGet H l (.str "turn") (some (.int t)) := by
  refine ⟨?_, ?_, ?_, ?_⟩
  · exact .inl ⟨_, Sum.inr "cells", .inl h, rfl, rfl⟩
  · exact .inl ⟨_, Sum.inr "spot", .inl h, rfl, rfl⟩
  · exact .inl ⟨_, Sum.inr "left", .inl h, rfl, rfl⟩
  · exact .inl ⟨_, Sum.inr "turn", .inl h, rfl, rfl⟩
section
variable {P : Program} {w : World} {K : PySem.W.Frag} {mg : Str → Option Value} {base : Heap}
theorem ok_feed (T : Txt K mg) : FnOk P w K mg base CX0 1 T.f__law_feed T.d__law_feed ["_law_script"] (spFeed K) := by
  have nd := sc__law_feed.nd
  refine T.F__law_feed.ok sc__law_feed (fun vs H Q E h => ?_) (fun cdv A outer s H vs Q E hr h => ?_)
  · obtain ⟨a, ns, rfl, _⟩ := h
    rfl
  obtain ⟨a, ns, rfl, hS, h63, k⟩ := h
  refine ⟨_, (pss_one (ps_ret (pe_disp (pps_cons pe_str (pe_lc (own := [("_law_cell", 1)]) (g := gName 1) (tt := tYes) (by rfl) nd (pi_list (pe_slice sl_list (pv 0) po_none (po_some pe_int))) (blkOk_by (own := [("_law_cell", 1)]) (N := sl__law_feed) (sc := defScope s__law_feed) (by decide +kernel)) (fun _ _ _ _ _ => pg_name (i := 1) nd rfl (Or.inl rfl)) (fun _ _ _ _ _ => pts_nil) (fun _ _ _ _ _ => (pe_callTy call_int1 (by rfl) T.z_int (by decide +kernel) (pa_cons (pv 1) pa_nil)))) (pps_cons pe_str pe_int (pps_cons pe_str pe_int (pps_cons pe_str pe_int pps_nil)))) rfl rfl (by intro z; cases z) (Nat.le_of_ble_eq_true rfl)))), ?_⟩
  refine fun l hl => ?_
  have e1 : Same H (upd H l (.dK [])) := same_new hl _
  refine ⟨_, rfl, 60, rfl, a, _, rfl, e1.seq hS, fun sl hsl => ⟨sl, rfl, ⟨_, SqL.of upd_same⟩, fun D hD => ?_⟩⟩
  have hcut : cutV (iV ns) none (some 60) = iV (ns.take 60) := (cut_hi (n := 60)).trans (iV_take ns 60)
  rw [hcut] at hD
  have ndl : D ≠ l := fun z => by
    rw [z, upd_ne (fun y => by rw [← y, upd_same] at hsl; cases hsl), upd_same] at hD
    cases hD
  have nsl : sl ≠ l := fun y => by rw [y, upd_same] at hsl; cases hsl
  have e2 : Same (upd H l (.dK [])) (upd (upd H l (.dK [])) sl (.lst (iV (ns.take 60)))) := same_new hsl _
  have esl : (upd (upd H l (.dK [])) sl (.lst (iV (ns.take 60)))) sl = some (.lst (iV (ns.take 60))) := upd_same
  rw [hcut]
  generalize upd (upd H l (.dK [])) sl (.lst (iV (ns.take 60))) = G at *
  generalize hms : ns.take 60 = ms at *
  have lms : ms.length ≤ 60 := by rw [← hms, List.length_take]; omega
  refine lc_it (walk_list (K := K) (a := sl) (xs := iV ms)) (fun i H' => Same G H' ∧ H' D = some (.lst (iV (ms.take i)))) ?_ ?_ ?_ ?_
  · exact ⟨same_new hD _, upd_same⟩
  · rintro i H' _ ⟨e, _⟩
    exact SqL.of (e _ _ esl)
  · rintro i z H1 H2 hi ⟨e, hDl⟩ ⟨rfl, hz⟩
    rw [iV_len] at hi
    rw [iV_at hi] at hz
    cases hz
    refine ⟨rfl, ?_⟩
    refine ⟨_, rfl, .inl ⟨_, rfl, ?_⟩⟩
    refine ⟨_, hDl, (by rw [iV_len, List.length_take]; exact szl (by omega)), same_mut e hD, ?_⟩
    rw [upd_same, List.take_succ, List.getElem?_eq_getElem hi]
    have : iV (ms.take i ++ [ms[i]]) = iV (ms.take i) ++ [V.int (ms.getD i 0)] := by
      rw [List.getD_eq_getElem?_getD, List.getElem?_eq_getElem hi]
      exact List.map_append ..
    rw [← this]; rfl
  · rintro H1 ⟨e, hDl⟩
    rw [iV_len, List.take_length] at hDl
    have el := (e2.trans e) _ _ (upd_same : (upd H l (.dK [])) l = some (.dK []))
    refine ⟨el, [(Sum.inr "cells", .ref D), (Sum.inr "spot", .int 0), (Sum.inr "left", .int 0), (Sum.inr "turn", .int 0)], rfl, Nat.le_of_ble_eq_true rfl, ?_⟩
    have em : mergeK [] [((Sum.inr "cells" : Key), V.ref D), (Sum.inr "spot", .int 0), (Sum.inr "left", .int 0), (Sum.inr "turn", .int 0)] = fdK D 0 0 0 := by
      rfl
    rw [em]
    have eH : Same H (upd H1 l (.dK (fdK D 0 0 0))) := same_mut ((e1.trans e2).trans e) hl
    refine k l _ eH D ms hl ⟨0, 0, 0, upd_same, SqL.of ?_, Int.le_refl _, by omega⟩
    rw [del_upd, del_ne ndl]
    exact hDl
end
end Lk

set_option Elab.async false
set_option linter.all false
set_option maxRecDepth 100000
set_option maxHeartbeats 4000000
namespace Lk
open PySem PySem.Spec PyProof.Rows L2
theorem lay_ints : ∀ ns : List Int, PyData.canLayAll0 (ns.map .int) = true
  | [] => rfl
  | n :: r => by
    show (true && PyData.canLayAll0 (r.map .int)) = true
    rw [lay_ints r]; rfl
theorem dep_ints : ∀ ns : List Int, PyData.depthAll (ns.map .int) = 0
  | [] => rfl
  | n :: r => by
    simp only [List.map_cons, PyData.depthAll, PyData.depth, dep_ints r]
    try rfl
theorem shaped_iV (ns : List Int) : SeqAt.shaped (.list (ns.map .int)) = true := by
  unfold SeqAt.shaped
  rw [Bool.and_eq_true_iff]
  refine ⟨lay_ints ns, decide_eq_true ?_⟩
  simp only [PyData.depth, dep_ints]
  omega
theorem fmod_small (x : Int) {c : Int} (h0 : 0 < c) (h1 : c < 2 ^ 64) : -(2 ^ 64) < x.fmod c ∧ x.fmod c < 2 ^ 64 := by
  have a := Int.fmod_nonneg_of_pos x h0
  have b := Int.fmod_lt_of_pos x h0
  omega
theorem putT {q : Addr} {p b t x : Int} : putK (fdK q p b t) (Sum.inr "turn") (.int x) = fdK q p b x := rfl
theorem putL {q : Addr} {p b t x : Int} : putK (fdK q p b t) (Sum.inr "left") (.int x) = fdK q p x t := rfl
theorem putS {q : Addr} {p b t x : Int} : putK (fdK q p b t) (Sum.inr "spot") (.int x) = fdK q x b t := rfl
section
variable {P : Program} {w : World} {K : PySem.W.Frag} {mg : Str → Option Value} {base : Heap}
theorem ok_draw (T : Txt K mg) : FnOk P w K mg base CX0 1 T.f__law_draw T.d__law_draw ["_law_feed_here", "_law_size_here"] (spTake K) := by
  have nd := sc__law_draw.nd
  refine T.F__law_draw.ok sc__law_draw (fun vs H Q E h => ?_) (fun cdv A outer s H vs Q E hr h => ?_)
  · obtain ⟨l, m, q, ns, rfl, _⟩ := h
    rfl
  obtain ⟨l, m, q, ns, rfl, ⟨p, b, t, hl, hq, hp0, h63⟩, hm, hm1, k⟩ := h
  refine ⟨_, (pss_cons (ps_dput (hu1 hr) (pv 0) pe_str (pe_op op_add (pe_dget (hu1 hr) (pv 0) pe_str (fun _ _ => rfl)) pe_int) rfl)
      (pss_cons (ps_if (pt_cmpR op_gt (pe_dget (hu1 hr) (pv 0) pe_str (fun _ _ => rfl)) pe_int (nomark _)) (pss_cons (ps_set (i := 2) nd rfl (Or.inl rfl) (pe_op op_modN (pe_callTy call_int1 (by rfl) T.z_int (by decide +kernel) (pa_cons (pe_dget (hu1 hr) (pv 0) pe_str (fun _ _ => rfl)) pa_nil)) (pv 1)))
      (pss_cons (ps_dput (hu1 hr) (pv 0) pe_str (pe_op op_fdivN (pe_callTy call_int1 (by rfl) T.z_int (by decide +kernel) (pa_cons (pe_dget (hu1 hr) (pv 0) pe_str (fun _ _ => rfl)) pa_nil)) (pv 1)) rfl)
      (pss_one (ps_ret (pv 2))))) pss_nil)
      (pss_cons (ps_par (i := 3) (j := 4) rfl nd rfl rfl (by decide) rfl rfl (pa_cons (pe_dget (hu1 hr) (pv 0) pe_str (fun _ _ => rfl)) (pa_cons (pe_dget (hu1 hr) (pv 0) pe_str (fun _ _ => rfl)) pa_nil)) (by rfl))
      (pss_cons (ps_dput (hu1 hr) (pv 0) pe_str (pe_op op_add (pv 4) pe_int) rfl)
      (pss_cons (ps_set (i := 5) nd rfl (Or.inl rfl) (pe_ifExp (pt_cmpR (op_neD hr.units) (pv 3) (pe_lst pa_nil) (nomark _)) (pe_ix ix_list (pv 3) (pe_op op_modN (pe_callTy call_int1 (by rfl) T.z_int (by decide +kernel) (pa_cons (pv 4) pa_nil)) (pe_callB call_len_seq (by rfl) T.z_len PySem.boot_len (pa_cons (pv 3) pa_nil))) (fun _ _ => rfl)) pe_int))
      (pss_cons (ps_if (PW.pt (pw_and (pt_cmpR op_ge (pv 5) (pe_op op_pow pe_int pe_int) (nomark _)) (pw_and1 (pt_cmpR op_lt (pv 4) (pe_callB call_len_seq (by rfl) T.z_len PySem.boot_len (pa_cons (pv 3) pa_nil)) (nomark _))))) (pss_cons (ps_dput (hu1 hr) (pv 0) pe_str (pe_op op_fdivN (pe_callTy call_int1 (by rfl) T.z_int (by decide +kernel) (pa_cons (pv 5) pa_nil)) (pv 1)) rfl)
      (pss_one (ps_ret (pe_op op_modN (pe_callTy call_int1 (by rfl) T.z_int (by decide +kernel) (pa_cons (pv 5) pa_nil)) (pv 1))))) pss_nil)
      (pss_cons (ps_set (i := 6) nd rfl (Or.inl rfl) (pe_op op_modN (pe_callTy call_int1 (by rfl) T.z_int (by decide +kernel) (pa_cons (pe_op op_add (pe_op op_add (pe_op op_modN (pe_callTy call_int1 (by rfl) T.z_int (by decide +kernel) (pa_cons (pv 5) pa_nil)) pe_int) (pe_op op_mul pe_int (pe_dget (hu1 hr) (pv 0) pe_str (fun _ _ => rfl)))) pe_int) pa_nil)) pe_int))
      (pss_cons (ps_set (i := 6) nd rfl (Or.inl rfl) (pe_op op_modN (pe_callTy call_int1 (by rfl) T.z_int (by decide +kernel) (pa_cons (pe_op op_add (pe_op op_add (pe_op op_mul (pv 6) (pv 6)) (pe_op op_mul pe_int (pe_dget (hu1 hr) (pv 0) pe_str (fun _ _ => rfl)))) pe_int) pa_nil)) pe_int))
      (pss_one (ps_ret (pe_op op_modN (pe_callTy call_int1 (by rfl) T.z_int (by decide +kernel) (pa_cons (pe_op op_fdivN (pe_op op_modN (pe_callTy call_int1 (by rfl) T.z_int (by decide +kernel) (pa_cons (pe_op op_add (pe_op op_mul (pv 6) (pv 6)) (pe_op op_mul pe_int (pv 6))) pa_nil)) pe_int) pe_int) pa_nil)) (pv 1)))))))))))), ?_⟩
  have sz : ∀ {p b t : Int}, (fdK q p b t).length < sizeLine := fun {p b t} => by show 4 < sizeLine; decide
  refine ⟨_, rfl, l, _, rfl, (fd_get hl).2.2.2, _, _, rfl, rfl, _, rfl, l, _, rfl, DPut.k (k := Sum.inr "turn") hl sz, ?_⟩
  rw [putT]
  have kq : ∀ {H2 : Hp} {o : HO}, Same (del H l) (del H2 l) → Same (del H l) (del (upd H2 l o) l) := fun {H2 o} e => by rw [del_upd]; exact e
  have e1 : Same (del H l) (del (upd H l (.dK (fdK q p b (t + 1)))) l) := kq (Same.refl _)
  have hl1 : (upd H l (.dK (fdK q p b (t + 1)))) l = some (.dK (fdK q p b (t + 1))) := upd_same
  generalize upd H l (.dK (fdK q p b (t + 1))) = H1 at e1 hl1 ⊢
  have fin : ∀ (r : Int) (H2 : Hp) (p b t : Int), H2 l = some (.dK (fdK q p b t)) → 0 ≤ p → Same (del H l) (del H2 l) → 0 ≤ r → r < m → Q (.int r) H2 := fun r H2 p b t h2 hp e r0 r1 => k r H2 r0 r1 ⟨p, b, t, h2, e.seq hq, hp, h63⟩ e
  refine ⟨_, rfl, l, _, rfl, (fd_get hl1).2.2.1, _, _, rfl, rfl, _, rfl, ?_⟩
  refine ite2 (fun c1 => ?_) (fun c1 => ?_)
  · refine ⟨_, rfl, l, _, rfl, (fd_get hl1).2.2.1, .inl ⟨_, rfl, _, rfl, _, _, rfl, rfl, (by show m ≠ 0; omega), ?_⟩⟩
    refine ⟨_, rfl, l, _, rfl, (fd_get hl1).2.2.1, .inl ⟨_, rfl, _, rfl, _, _, rfl, rfl, ⟨by omega, by omega⟩, _, rfl, l, _, rfl, DPut.k (k := Sum.inr "left") hl1 sz, ?_⟩⟩
    rw [putL]
    exact ⟨_, rfl, fin _ _ _ _ _ upd_same hp0 (kq e1) (Int.fmod_nonneg_of_pos _ hm) (Int.fmod_lt_of_pos _ hm)⟩
  · have hq1 : SqL K H1 q (iV ns) := (del_le H1 l).seq (e1.seq hq)
    refine ⟨_, rfl, l, _, rfl, (fd_get hl1).1, _, rfl, l, _, rfl, (fd_get hl1).2.1, _, _, rfl, ?_⟩
    refine ⟨_, rfl, _, _, rfl, rfl, _, rfl, l, _, rfl, DPut.k (k := Sum.inr "spot") hl1 sz, ?_⟩
    rw [putS]
    have e2 := kq (o := .dK (fdK q (p + 1) b (t + 1))) e1
    have hl2 : (upd H1 l (.dK (fdK q (p + 1) b (t + 1)))) l = some (.dK (fdK q (p + 1) b (t + 1))) := upd_same
    generalize upd H1 l (.dK (fdK q (p + 1) b (t + 1))) = H2 at e2 hl2 ⊢
    have hq2 : SqL K H2 q (iV ns) := (del_le H2 l).seq (e2.seq hq)
    refine ⟨_, rfl, (by show 0 ≤ sizeLine; decide), fun pe hpe => ?_⟩
    have e3 : Same H2 (upd H2 pe (.lst [])) := same_new hpe _
    refine ⟨.list (ns.map .int), .list [], .lst (e3.seq hq2) (dp_ints ns), .lst (SqL.of upd_same) .nil, shaped_iV ns, rfl, _, rfl, ?_⟩
    have hl3 := e3 _ _ hl2
    have e23 := e2.trans (same_del l e3)
    have hq3 := e3.seq hq2
    generalize upd H2 pe (.lst []) = H3 at e3 hl3 e23 hq3 ⊢
    cases ns with
    | nil =>
      refine iteF ?_
      refine ⟨_, rfl, _, _, rfl, rfl, ⟨by decide, by decide, by decide⟩, _, _, rfl, rfl, _, rfl, ?_⟩
      have dgt := (fd_get hl3).2.2.2
      refine ite2 (fun c2 => ?_) (fun c2 => ?_)
      · refine ⟨_, rfl, _, rfl, q, _, rfl, .inl hq3, _, _, rfl, rfl, _, rfl, ?_⟩
        refine ite2 (fun c3 => ?_) (fun c3 => ?_)
        · refine ⟨_, rfl, .inl ⟨_, rfl, _, rfl, _, _, rfl, rfl, ⟨by omega, by omega⟩, _, rfl, l, _, rfl, DPut.k (k := Sum.inr "left") hl3 sz, ?_⟩⟩
          rw [putL]
          exact ⟨_, rfl, .inl ⟨_, rfl, _, rfl, _, _, rfl, rfl, (by show m ≠ 0; omega), fin _ _ _ _ _ upd_same (by omega) (kq e23) (Int.fmod_nonneg_of_pos _ hm) (Int.fmod_lt_of_pos _ hm)⟩⟩
        · refine ⟨_, rfl, .inl ⟨_, rfl, _, _, rfl, rfl, (by show (1998581 : Int) ≠ 0; decide), _, rfl, l, _, rfl, dgt, _, _, rfl, rfl, .inl ⟨by decide, by decide⟩, _, _, rfl, rfl, _, _, rfl, rfl, .inl ⟨_, rfl, _, _, rfl, rfl, (by show (2147475103 : Int) ≠ 0; decide), ?_⟩⟩⟩
          refine ⟨_, rfl, _, rfl, _, _, rfl, rfl, .inr (fmod_small _ (by decide) (by decide)), _, rfl, l, _, rfl, dgt, _, _, rfl, rfl, .inl ⟨by decide, by decide⟩, _, _, rfl, rfl, _, _, rfl, rfl, .inl ⟨_, rfl, _, _, rfl, rfl, (by show (2147478521 : Int) ≠ 0; decide), ?_⟩⟩
          exact ⟨_, rfl, _, rfl, _, _, rfl, rfl, .inr (fmod_small _ (by decide) (by decide)), _, rfl, _, _, rfl, rfl, .inl ⟨by decide, by decide⟩, _, _, rfl, rfl, .inl ⟨_, rfl, _, _, rfl, rfl, (by show (2147481793 : Int) ≠ 0; decide), _, _, rfl, rfl, ⟨by decide, by decide⟩, .inl ⟨_, rfl, _, rfl, _, _, rfl, rfl, (by show m ≠ 0; omega), fin _ _ _ _ _ hl3 (by omega) e23 (Int.fmod_nonneg_of_pos _ hm) (Int.fmod_lt_of_pos _ hm)⟩⟩⟩
      · refine iteF ?_
        refine ⟨_, rfl, .inl ⟨_, rfl, _, _, rfl, rfl, (by show (1998581 : Int) ≠ 0; decide), _, rfl, l, _, rfl, dgt, _, _, rfl, rfl, .inl ⟨by decide, by decide⟩, _, _, rfl, rfl, _, _, rfl, rfl, .inl ⟨_, rfl, _, _, rfl, rfl, (by show (2147475103 : Int) ≠ 0; decide), ?_⟩⟩⟩
        refine ⟨_, rfl, _, rfl, _, _, rfl, rfl, .inr (fmod_small _ (by decide) (by decide)), _, rfl, l, _, rfl, dgt, _, _, rfl, rfl, .inl ⟨by decide, by decide⟩, _, _, rfl, rfl, _, _, rfl, rfl, .inl ⟨_, rfl, _, _, rfl, rfl, (by show (2147478521 : Int) ≠ 0; decide), ?_⟩⟩
        exact ⟨_, rfl, _, rfl, _, _, rfl, rfl, .inr (fmod_small _ (by decide) (by decide)), _, rfl, _, _, rfl, rfl, .inl ⟨by decide, by decide⟩, _, _, rfl, rfl, .inl ⟨_, rfl, _, _, rfl, rfl, (by show (2147481793 : Int) ≠ 0; decide), _, _, rfl, rfl, ⟨by decide, by decide⟩, .inl ⟨_, rfl, _, rfl, _, _, rfl, rfl, (by show m ≠ 0; omega), fin _ _ _ _ _ hl3 (by omega) e23 (Int.fmod_nonneg_of_pos _ hm) (Int.fmod_lt_of_pos _ hm)⟩⟩⟩
    | cons n0 nr =>
      refine iteT ?_
      have lpos : (0 : Int) < ((iV (n0 :: nr)).length : Int) := by rw [iV_len]; simp only [List.length_cons]; omega
      have f0 := Int.fmod_nonneg_of_pos p lpos
      have f1 := Int.fmod_lt_of_pos p lpos
      have at3 : atI (iV (n0 :: nr)) (p.fmod ((iV (n0 :: nr)).length : Int)) = some (.int ((n0 :: nr).getD (p.fmod ((iV (n0 :: nr)).length : Int)).toNat 0)) := by
        obtain ⟨x, hx⟩ := Int.eq_ofNat_of_zero_le f0
        rw [hx]
        exact atI_nat (iV_at (by rw [iV_len] at f1 hx; omega))
      refine ⟨_, rfl, _, rfl, .inl ⟨_, rfl, _, rfl, q, _, rfl, .inl hq3, _, _, rfl, rfl, (by show ((iV (n0 :: nr)).length : Int) ≠ 0; omega), q, _, _, _, rfl, rfl, hq3, at3, ?_⟩⟩
      refine ⟨_, rfl, _, _, rfl, rfl, ⟨by decide, by decide, by decide⟩, _, _, rfl, rfl, _, rfl, ?_⟩
      have dgt := (fd_get hl3).2.2.2
      refine ite2 (fun c2 => ?_) (fun c2 => ?_)
      · refine ⟨_, rfl, _, rfl, q, _, rfl, .inl hq3, _, _, rfl, rfl, _, rfl, ?_⟩
        refine ite2 (fun c3 => ?_) (fun c3 => ?_)
        · refine ⟨_, rfl, .inl ⟨_, rfl, _, rfl, _, _, rfl, rfl, ⟨by omega, by omega⟩, _, rfl, l, _, rfl, DPut.k (k := Sum.inr "left") hl3 sz, ?_⟩⟩
          rw [putL]
          exact ⟨_, rfl, .inl ⟨_, rfl, _, rfl, _, _, rfl, rfl, (by show m ≠ 0; omega), fin _ _ _ _ _ upd_same (by omega) (kq e23) (Int.fmod_nonneg_of_pos _ hm) (Int.fmod_lt_of_pos _ hm)⟩⟩
        · refine ⟨_, rfl, .inl ⟨_, rfl, _, _, rfl, rfl, (by show (1998581 : Int) ≠ 0; decide), _, rfl, l, _, rfl, dgt, _, _, rfl, rfl, .inl ⟨by decide, by decide⟩, _, _, rfl, rfl, _, _, rfl, rfl, .inl ⟨_, rfl, _, _, rfl, rfl, (by show (2147475103 : Int) ≠ 0; decide), ?_⟩⟩⟩
          refine ⟨_, rfl, _, rfl, _, _, rfl, rfl, .inr (fmod_small _ (by decide) (by decide)), _, rfl, l, _, rfl, dgt, _, _, rfl, rfl, .inl ⟨by decide, by decide⟩, _, _, rfl, rfl, _, _, rfl, rfl, .inl ⟨_, rfl, _, _, rfl, rfl, (by show (2147478521 : Int) ≠ 0; decide), ?_⟩⟩
          exact ⟨_, rfl, _, rfl, _, _, rfl, rfl, .inr (fmod_small _ (by decide) (by decide)), _, rfl, _, _, rfl, rfl, .inl ⟨by decide, by decide⟩, _, _, rfl, rfl, .inl ⟨_, rfl, _, _, rfl, rfl, (by show (2147481793 : Int) ≠ 0; decide), _, _, rfl, rfl, ⟨by decide, by decide⟩, .inl ⟨_, rfl, _, rfl, _, _, rfl, rfl, (by show m ≠ 0; omega), fin _ _ _ _ _ hl3 (by omega) e23 (Int.fmod_nonneg_of_pos _ hm) (Int.fmod_lt_of_pos _ hm)⟩⟩⟩
      · refine iteF ?_
        refine ⟨_, rfl, .inl ⟨_, rfl, _, _, rfl, rfl, (by show (1998581 : Int) ≠ 0; decide), _, rfl, l, _, rfl, dgt, _, _, rfl, rfl, .inl ⟨by decide, by decide⟩, _, _, rfl, rfl, _, _, rfl, rfl, .inl ⟨_, rfl, _, _, rfl, rfl, (by show (2147475103 : Int) ≠ 0; decide), ?_⟩⟩⟩
        refine ⟨_, rfl, _, rfl, _, _, rfl, rfl, .inr (fmod_small _ (by decide) (by decide)), _, rfl, l, _, rfl, dgt, _, _, rfl, rfl, .inl ⟨by decide, by decide⟩, _, _, rfl, rfl, _, _, rfl, rfl, .inl ⟨_, rfl, _, _, rfl, rfl, (by show (2147478521 : Int) ≠ 0; decide), ?_⟩⟩
        exact ⟨_, rfl, _, rfl, _, _, rfl, rfl, .inr (fmod_small _ (by decide) (by decide)), _, rfl, _, _, rfl, rfl, .inl ⟨by decide, by decide⟩, _, _, rfl, rfl, .inl ⟨_, rfl, _, _, rfl, rfl, (by show (2147481793 : Int) ≠ 0; decide), _, _, rfl, rfl, ⟨by decide, by decide⟩, .inl ⟨_, rfl, _, rfl, _, _, rfl, rfl, (by show m ≠ 0; omega), fin _ _ _ _ _ hl3 (by omega) e23 (Int.fmod_nonneg_of_pos _ hm) (Int.fmod_lt_of_pos _ hm)⟩⟩⟩
end
end Lk

set_option Elab.async false
set_option linter.all false
set_option maxRecDepth 100000
set_option maxHeartbeats 4000000
namespace Lk
open PySem PySem.Spec PyProof.Rows L2
theorem feed_ne {K : PySem.W.Frag} {H : Hp} {l q p : Addr} {ns : List Int} (f : Feed K H l q ns) (h : H p = none) : p ≠ l := fun z => by
  obtain ⟨_, _, _, e, _⟩ := f
  rw [z, e] at h; cases h
def spAny (K : PySem.W.Frag) : Sp := fun vs H Q _ => ∃ (l b : Addr) (xs : List V) (q : Addr) (ns : List Int), vs = [.ref l, .ref b] ∧ Feed K H l q ns ∧ SqL K (del H l) b xs ∧ 0 < xs.length ∧ xs.length ≤ 1000 ∧ ∀ (y : V) (H' : Hp), y ∈ xs → Feed K H' l q ns → Same (del H l) (del H' l) → Q y H'
def spWord (K : PySem.W.Frag) : Sp := fun vs H Q _ => ∃ (a b c d : Int), vs = [.int a, .int b, .int c, .int d] ∧ Q (.int (a * 4096 + b * 256 + c * 16 + d)) H
section
variable {P : Program} {w : World} {K : PySem.W.Frag} {mg : Str → Option Value} {base : Heap}
theorem okD {x qual : Str} {st : Stmt} {dvs : List V} {f : Addr} {fd : FuncData} {N ps : List Str} {k : Nat} {sp : Sp} (F : FunD K x qual (defArgs st) (defBody st) (defScope st) dvs [] f fd) (S : FnScope N ps (defScope st)) (len : ∀ vs H Q E, sp vs H Q E → vs.length = ps.length)
    (bd : ∀ (cdv : Value) (A : Around) (outer : List Env) (s : Shared) (H : Hp) (vs : List V) (Q : VK) (E : XK), Room k (A.deeper (envOfC qual (defScope st) s.heap.objs.size f cdv)) → sp vs H Q E →
      ∃ t, PSs (cxOf CX0 P w K mg base N qual (defScope st) f cdv A outer s H E).nox (defBody st) t ∧ t { nx := fun _ H' => Q .non H', rt := Q } (L2.start N vs) H) : FnOk P w K mg base CX0 (k + 1) f fd ps sp :=
  F.ok S len fun cdv A outer s H vs Q E hr hs => let ⟨t, h1, h2⟩ := bd cdv A outer s H vs Q E hr hs; ⟨t, h1.nox, h2⟩
theorem ok_any (T : Txt K mg) : FnOk P w K mg base CX0 2 T.f__law_any T.d__law_any ["_law_feed_here", "_law_some"] (spAny K) := by
  have nd := sc__law_any.nd
  refine T.F__law_any.ok sc__law_any (fun vs H Q E h => ?_) (fun cdv A outer s H vs Q E hr h => ?_)
  · obtain ⟨l, b, xs, q, ns, rfl, _⟩ := h
    rfl
  obtain ⟨l, b, xs, q, ns, rfl, hf, hb, h0, h1, k⟩ := h
  have G__law_draw : FnOk P w K mg base CX0 1 _ _ _ (spTake K) := ok_draw T
  have hr__law_draw := hr
  refine ⟨_, (pss_one (ps_ret (pe_ix ix_list (pv 1) (pe_call G__law_draw hr__law_draw rfl T.m__law_draw T.k__law_draw T.b__law_draw .nil pass0 (pa_cons (pv 0) (pa_cons (pe_callB call_len_seq (by rfl) T.z_len PySem.boot_len (pa_cons (pv 1) pa_nil)) pa_nil))) (fun _ _ => rfl)))), ?_⟩
  refine ⟨_, rfl, _, rfl, _, rfl, b, xs, rfl, .inl ((del_le H l).seq hb), l, (xs.length : Int), q, ns, rfl, hf, by omega, by omega, fun r H2 r0 r1 f2 k2 => ?_⟩
  obtain ⟨n, rfl⟩ := Int.eq_ofNat_of_zero_le r0
  have hn : n < xs.length := by omega
  refine ⟨b, _, _, _, rfl, rfl, (del_le H2 l).seq (k2.seq hb), atI_nat (List.getElem?_eq_getElem hn), ?_⟩
  exact k _ H2 (List.getElem_mem hn) f2 k2
theorem ok_word_of (T : Txt K mg) : FnOk P w K mg base CX0 1 T.f_word_of T.d_word_of ["verb", "b", "c", "d"] (spWord K) := by
  have nd := sc_word_of.nd
  refine okD T.F_word_of sc_word_of (fun vs H Q E h => ?_) (fun cdv A outer s H vs Q E hr h => ?_)
  · obtain ⟨a, b, c, d, rfl, _⟩ := h
    rfl
  obtain ⟨a, b, c, d, rfl, k⟩ := h
  refine ⟨_, (pss_one (ps_ret (pe_op op_add (pe_op op_add (pe_op op_add (pe_op op_mul (pv 0) pe_int) (pe_op op_mul (pv 1) pe_int)) (pe_op op_mul (pv 2) pe_int)) (pv 3)))), ?_⟩
  exact ⟨_, rfl, _, _, rfl, rfl, .inr ⟨by decide, by decide⟩, _, rfl, _, _, rfl, rfl, .inr ⟨by decide, by decide⟩, _, _, rfl, rfl, _, rfl, _, _, rfl, rfl, .inr ⟨by decide, by decide⟩, _, _, rfl, rfl, _, rfl, _, _, rfl, rfl, k⟩
end
end Lk

set_option Elab.async false
set_option linter.all false
set_option maxRecDepth 100000
set_option maxHeartbeats 4000000
namespace Lk
open PySem PySem.Spec PyProof.Rows L2
/-! ### rows of linked functions -/
inductive Ro where
  | plain (k : Bool)
  | cell (k : Fin 3) (c : Int)
  | num (b n : Int)
  | two (k : Bool) (b c : Int)
  | op (k : Fin 7) (b c d : Int) (pl : Option Int)
  | call (t : Str) (pl : Int)
  | jump (t : Nat)
  | nought (b : Int) (t : Nat)
def opV (k : Fin 7) : Str := ["add", "sub", "mul", "div", "rem", "less", "same"].getD k.val ""
def cellV (k : Fin 3) : Str := ["tell", "keep", "fetch"].getD k.val ""
def Ro.verb : Ro → Str
  | .plain k => if k then "beat" else "back"
  | .cell k _ => cellV k
  | .num _ _ => "number"
  | .two k _ _ => if k then "move" else "swap"
  | .op k _ _ _ _ => opV k
  | .call _ _ => "call"
  | .jump _ => "jump"
  | .nought _ _ => "nought"
def Ro.args : Ro → List PyData
  | .plain _ => []
  | .cell _ c => [.int c]
  | .num b n => [.int b, .int n]
  | .two _ b c => [.int b, .int c]
  | .op _ b c d pl => [.int b, .int c, .int d] ++ (match pl with | none => [] | some n => [.int n])
  | .call t pl => [.str t, .int pl]
  | .jump t => [.int t]
  | .nought b t => [.int b, .int t]
def Ro.d (r : Ro) : PyData := .tuple (.str r.verb :: r.args)
def Ro.th : Ro → Th
  | .num _ _ => .len 2
  | .call _ _ => .len 2
  | .jump t => .jmp t
  | .nought _ t => .jmp t
  | _ => .len 1
def Ro.isJ : Ro → Bool
  | .jump _ => true
  | .nought _ _ => true
  | _ => false
def Ro.is2 : Ro → Bool
  | .num _ _ => true
  | .call _ _ => true
  | _ => false
theorem in_two (z a b : Str) : inV (.str z) [.str a, .str b] = (z == a || z == b) := by
  show ((a == z) || ((b == z) || false)) = (z == a || z == b)
  rw [Bool.or_false, BEq.comm (a := a), BEq.comm (a := b)]
theorem opV_no : ∀ k : Fin 7, (opV k == "jump" || opV k == "nought") = false ∧ (opV k == "number" || opV k == "call") = false := by decide +kernel
theorem cellV_no : ∀ k : Fin 3, (cellV k == "jump" || cellV k == "nought") = false ∧ (cellV k == "number" || cellV k == "call") = false := by decide +kernel
theorem strsJ : ((("beat" : Str) == "jump" || ("beat" : Str) == "nought") = false) ∧ ((("back" : Str) == "jump" || ("back" : Str) == "nought") = false) ∧ ((("number" : Str) == "jump" || ("number" : Str) == "nought") = false) ∧ ((("move" : Str) == "jump" || ("move" : Str) == "nought") = false) ∧ ((("swap" : Str) == "jump" || ("swap" : Str) == "nought") = false) ∧ ((("call" : Str) == "jump" || ("call" : Str) == "nought") = false) ∧ ((("jump" : Str) == "jump" || ("jump" : Str) == "nought") = true) ∧ ((("nought" : Str) == "jump" || ("nought" : Str) == "nought") = true) := by decide +kernel
theorem strs2 : ((("beat" : Str) == "number" || ("beat" : Str) == "call") = false) ∧ ((("back" : Str) == "number" || ("back" : Str) == "call") = false) ∧ ((("number" : Str) == "number" || ("number" : Str) == "call") = true) ∧ ((("move" : Str) == "number" || ("move" : Str) == "call") = false) ∧ ((("swap" : Str) == "number" || ("swap" : Str) == "call") = false) ∧ ((("call" : Str) == "number" || ("call" : Str) == "call") = true) ∧ ((("jump" : Str) == "number" || ("jump" : Str) == "call") = false) ∧ ((("nought" : Str) == "number" || ("nought" : Str) == "call") = false) := by decide +kernel
theorem verb_j (r : Ro) : (r.verb == "jump" || r.verb == "nought") = r.isJ := by
  obtain ⟨h1, h2, h3, h4, h5, h6, h7, h8⟩ := strsJ
  cases r with
  | plain k => cases k; exact h2; exact h1
  | cell k c => exact (cellV_no k).1
  | num b n => exact h3
  | two k b c => cases k; exact h5; exact h4
  | op k b c d pl => exact (opV_no k).1
  | call t pl => exact h6
  | jump t => exact h7
  | nought b t => exact h8
theorem verb_2 (r : Ro) : (r.verb == "number" || r.verb == "call") = r.is2 := by
  obtain ⟨h1, h2, h3, h4, h5, h6, h7, h8⟩ := strs2
  cases r with
  | plain k => cases k; exact h2; exact h1
  | cell k c => exact (cellV_no k).2
  | num b n => exact h3
  | two k b c => cases k; exact h5; exact h4
  | op k b c d pl => exact (opV_no k).2
  | call t pl => exact h6
  | jump t => exact h7
  | nought b t => exact h8
theorem Ro.th2 {r : Ro} (h : r.is2 = true) : r.th = .len 2 := by
  cases r <;> first | rfl | cases h
theorem Ro.th1 {r : Ro} (h : r.isJ = false) (h2 : r.is2 = false) : r.th = .len 1 := by
  cases r <;> first | (cases h; done) | (cases h2; done) | rfl
theorem Ro.last {r : Ro} (h : r.isJ = true) : ∃ (t : Nat) (ds : List PyData), (PyData.str r.verb :: r.args) = ds ++ [.int t] ∧ r.th = .jmp t := by
  cases r with
  | jump t => exact ⟨t, [_], rfl, rfl⟩
  | nought b t => exact ⟨t, [_, _], rfl, rfl⟩
  | _ => cases h
theorem dp_lastI {K : PySem.W.Frag} {H : Hp} {d : PyData} : ∀ {ds : List PyData} {xs : List V}, DpAll K H xs (ds ++ [d]) → ∃ ys z, xs = ys ++ [z] ∧ Dp K H z d
  | [], xs, h => by
    cases h with
    | cons h t => cases t; exact ⟨[], _, rfl, h⟩
  | _ :: ds, xs, h => by
    cases h with
    | cons h t =>
      obtain ⟨ys, z, rfl, hz⟩ := dp_lastI t
      exact ⟨_ :: ys, z, rfl, hz⟩
def spThing (K : PySem.W.Frag) : Sp := fun vs H Q _ => ∃ (x : V) (r : Ro), vs = [x] ∧ Dp K H x r.d ∧ ∀ z H', Same H H' → Dp K H' z r.th.d → Q z H'
section
variable {P : Program} {w : World} {K : PySem.W.Frag} {mg : Str → Option Value} {base : Heap}
theorem row_head {H : Hp} {x : V} {r : Ro} (h : Dp K H x r.d) : ∃ (a : Addr) (xs : List V), x = .ref a ∧ SqT K H a xs ∧ DpAll K H xs (.str r.verb :: r.args) ∧ atI xs 0 = some (V.str r.verb) := by
  obtain ⟨a, xs, rfl, ha, hx⟩ := tup_inv h
  obtain ⟨v, ev, hv⟩ := dp_nth hx (i := 0) (Nat.succ_pos _)
  refine ⟨a, xs, rfl, ha, hx, ?_⟩
  have : v = .str r.verb := by
    have hv' : Dp K H v (.str r.verb) := hv
    cases hv'; rfl
  rw [this] at ev
  exact atI_nat (j := 0) ev
theorem ok_thing (T : Txt K mg) : FnOk P w K mg base CX0 1 T.f__thing_of T.d__thing_of ["row"] (spThing K) := by
  have nd := sc__thing_of.nd
  refine T.F__thing_of.ok sc__thing_of (fun vs H Q E h => ?_) (fun cdv A outer s H vs Q E hr h => ?_)
  · obtain ⟨x, r, rfl, _⟩ := h
    rfl
  obtain ⟨x, r, rfl, hd, k⟩ := h
  refine ⟨_, (pss_cons (ps_if (pt_cmpR op_in_seq (pe_ix ix_tup (pv 0) pe_int (fun _ _ => rfl)) (pe_tup (pa_cons pe_str (pa_cons pe_str pa_nil))) (by rfl)) (pss_one (ps_ret (pe_tup (pa_cons pe_str (pa_cons (pe_ix ix_tup (pv 0) (pe_un un_neg pe_int) (fun _ _ => rfl)) pa_nil))))) pss_nil)
      (pss_cons (ps_if (pt_cmpR op_in_seq (pe_ix ix_tup (pv 0) pe_int (fun _ _ => rfl)) (pe_tup (pa_cons pe_str (pa_cons pe_str pa_nil))) (by rfl)) (pss_one (ps_ret pe_int)) pss_nil)
      (pss_one (ps_ret pe_int)))), ?_⟩
  obtain ⟨a, xs, rfl, ha, hx, h0⟩ := row_head hd
  refine ⟨_, rfl, a, _, _, _, rfl, rfl, ha, h0, (by show 2 ≤ sizeLine; decide), fun t1 ht1 => ?_⟩
  have e1 := same_new ht1 (.tup [.str "jump", .str "nought"])
  refine ⟨t1, [.str "jump", .str "nought"], rfl, .inr (SqT.of upd_same), rfl, rfl, _, rfl, ?_⟩
  rw [in_two, verb_j]
  cases hj : r.isJ with
  | true =>
    obtain ⟨t, ds, er, et⟩ := Ro.last hj
    rw [er] at hx
    obtain ⟨ys, z, rfl, hz⟩ := dp_lastI hx
    obtain rfl : z = .int t := by cases hz; rfl
    refine iteT ?_
    refine ⟨_, rfl, 1, rfl, a, _, _, _, rfl, rfl, seqT_same e1 ha, atI_last _ _, (by show 2 ≤ sizeLine; decide), fun t2 ht2 => ?_⟩
    have e2 := e1.trans (same_new ht2 (.tup [.str "jump", .int t]))
    refine k (.ref t2) _ e2 ?_
    rw [et]
    exact .tup (SqT.of upd_same) (.cons (.str _) (.cons (.int _) .nil))
  | false =>
    refine iteF ?_
    have h0' := h0
    refine ⟨_, rfl, a, _, _, _, rfl, rfl, seqT_same e1 ha, h0, (by show 2 ≤ sizeLine; decide), fun t2 ht2 => ?_⟩
    have e2 := e1.trans (same_new ht2 (.tup [.str "number", .str "call"]))
    refine ⟨t2, [.str "number", .str "call"], rfl, .inr (SqT.of upd_same), rfl, rfl, _, rfl, ?_⟩
    rw [in_two, verb_2]
    cases h2 : r.is2 with
    | true =>
      refine iteT ?_
      refine k (.int 2) _ e2 ?_
      rw [Ro.th2 h2]
      exact .int _
    | false =>
      refine iteF ?_
      refine k (.int 1) _ e2 ?_
      rw [Ro.th1 hj h2]
      exact .int _
end
end Lk

set_option Elab.async false
set_option linter.all false
set_option maxRecDepth 100000
set_option maxHeartbeats 4000000
namespace Lk
open PySem PySem.Spec PyProof.Rows L2
section
variable {P : Program} {w : World} {K : PySem.W.Frag} {mg : Str → Option Value} {base : Heap}
def thsOf (rs : List Ro) : List Th := rs.map Ro.th
def rowsD (rs : List Ro) : PyData := .tuple (rs.map Ro.d)
def addrRs (rs : List Ro) : List Int := addrs (leastL (thsOf rs) (-8) 7) (thsOf rs)
theorem th_noL (t : Th) : noL t.d = true := by cases t <;> rfl
def spAIn (K : PySem.W.Frag) : Sp := fun vs H Q _ => ∃ (x : V) (rs : List Ro), vs = [x] ∧ Dp K H x (rowsD rs) ∧ rs.length ≤ 2000 ∧ GoodTs (thsOf rs) ∧
  ∀ p H', Same H H' → H p = none → H' p = some (.lst (iV (addrRs rs))) → Q (.ref p) H'
theorem ok_aIn (T : Txt K mg) : FnOk P w K mg base CX0 5 T.f__addresses_in T.d__addresses_in ["rows"] (spAIn K) := by
  have nd := sc__addresses_in.nd
  refine T.F__addresses_in.ok sc__addresses_in (fun vs H Q E h => ?_) (fun cdv A outer s H vs Q E hr h => ?_)
  · obtain ⟨x, r, rfl, _⟩ := h
    rfl
  obtain ⟨x, rs, rfl, hd, hn, hg, k⟩ := h
  have G__thing_of : FnOk P w K mg base CX0 1 _ _ _ (spThing K) := ok_thing T
  have hr__thing_of := hr.mono (show 1 ≤ 4 by omega)
  have G_least_long : FnOk P w K mg base CX0 4 _ _ _ (spLeast K) := ok_least T
  have hr_least_long := hr
  have G_addresses_of : FnOk P w K mg base CX0 2 _ _ _ (spAddr K) := ok_addresses T
  have hr_addresses_of := hr.mono (show 2 ≤ 4 by omega)
  refine ⟨_, (pss_cons (ps_set (i := 1) nd rfl (Or.inl rfl) (pe_callTy call_tuple_of (by rfl) T.z_tuple (by decide +kernel) (pa_cons (pe_lc (own := [("row", 2)]) (g := gName 2) (tt := tYes) (by rfl) nd (pi_tup (pv 0)) (blkOk_by (own := [("row", 2)]) (N := sl__addresses_in) (sc := defScope s__addresses_in) (by decide +kernel)) (fun _ _ _ _ _ => pg_name (i := 2) nd rfl (Or.inl rfl)) (fun _ _ _ _ _ => pts_nil) (fun _ _ _ _ _ => (pe_call G__thing_of hr__thing_of rfl T.m__thing_of T.k__thing_of T.b__thing_of .nil pass0 (pa_cons (pv 2) pa_nil)))) pa_nil)))
      (pss_one (ps_ret (pe_call G_addresses_of hr_addresses_of rfl T.m_addresses_of T.k_addresses_of T.b_addresses_of .nil pass0 (pa_cons (pv 1) (pa_cons (pe_call G_least_long hr_least_long rfl T.m_least_long T.k_least_long T.b_least_long .nil pass0 (pa_cons (pv 1) (pa_cons (pe_glob (v := .int (-8)) rfl T.c_SHORT_LOW ⟨_, rfl⟩) (pa_cons (pe_glob (v := .int (7)) rfl T.c_SHORT_HIGH ⟨_, rfl⟩) pa_nil)))) pa_nil)))))), ?_⟩
  obtain ⟨a, xs, rfl, ha, hx⟩ := tup_inv hd
  have hl : xs.length = rs.length := by rw [dp_len hx, List.length_map]
  refine ⟨_, rfl, a, rfl, ⟨_, ha⟩, fun D hD => ?_⟩
  refine lc_tup (K := K) (a := a) (xs := xs) (fun i H' => Same H H' ∧ ∃ acc, H' D = some (.lst acc) ∧ DpAll K (del H' D) acc ((thsOf (rs.take i)).map Th.d) ∧ acc.length = i) ?_ ?_ ?_ ?_
  · exact ⟨same_new hD _, [], upd_same, .nil, rfl⟩
  · rintro i H' _ ⟨e, _⟩
    exact seqT_same e ha
  · rintro i x H' hix ⟨e, acc, hDl, hacc, hal⟩
    obtain ⟨r, hr1, hdr⟩ : ∃ r, rs[i]? = some r ∧ Dp K H x r.d := by
      obtain ⟨d, _, e1, h1⟩ := dp_get hx hix
      rw [List.getElem?_map] at e1
      cases c : rs[i]? with
      | none => rw [c] at e1; cases e1
      | some t =>
        rw [c] at e1
        obtain rfl : t.d = d := Option.some.inj e1
        exact ⟨t, rfl, h1⟩
    have hi : i < rs.length := (List.getElem?_eq_some_iff.mp hr1).1
    refine ⟨rfl, ?_⟩
    refine ⟨_, rfl, x, r, rfl, dp_same e hdr, fun z H3 e3 hz => ?_⟩
    refine ⟨_, e3 _ _ hDl, (by rw [hal]; exact szl (by omega)), same_mut (e.trans e3) hD, _, upd_same, ?_, ?_⟩
    · have ek : thsOf (rs.take (i + 1)) = thsOf (rs.take i) ++ [r.th] := by
        unfold thsOf
        rw [List.take_succ, hr1, List.map_append]
        rfl
      rw [ek, List.map_append, del_upd]
      exact dpAll_app (dpAll_same (same_del D e3) hacc) (dp_off (e3 _ _ hDl) (th_noL _) hz)
    · rw [List.length_append, hal]; rfl
  · rintro H2 ⟨e2, acc, hDl, hacc, hal⟩
    rw [hl, List.take_length] at hacc
    have hl2 : (thsOf rs).length = rs.length := List.length_map _
    refine ⟨D, acc, rfl, .inl ⟨SqL.of hDl, fun t ht => ?_⟩⟩
    have e3 := e2.trans (same_new ht (.tup acc))
    have hdt : Dp K (upd H2 t (.tup acc)) (.ref t) (.tuple ((thsOf rs).map Th.d)) := .tup (SqT.of upd_same) (dpAll_same ((del_le H2 D).trans (same_new ht _)) hacc)
    refine ⟨_, rfl, _, rfl, ?_⟩
    refine ⟨.ref t, -8, 7, thsOf rs, rfl, hdt, (by rw [hl2]; exact hn), hg, fun p H4 e4 hp ep => ?_⟩
    refine ⟨.ref t, p, thsOf rs, _, rfl, dp_same e4 hdt, ep, (by rw [hl2]; exact hn), fun q H5 e5 hq eq => ?_⟩
    exact k q H5 ((e3.trans e4).trans e5) (none_of (e3.trans e4) hq) eq
end
end Lk

set_option Elab.async false
set_option linter.all false
set_option maxRecDepth 100000
set_option maxHeartbeats 4000000
namespace Lk
open PySem PySem.Spec PyProof.Rows L2
section
variable {P : Program} {w : World} {K : PySem.W.Frag} {mg : Str → Option Value} {base : Heap}
def partsD (n : Int) : PyData := .tuple [.int (n.fdiv 4096), .int (n.fdiv 256 % 16), .int (n.fdiv 16 % 16), .int (n % 16)]
def spParts (K : PySem.W.Frag) : Sp := fun vs H Q _ => ∃ (n : Int), vs = [.int n] ∧ ∀ (a : Addr) (H' : Hp), Same H H' → SqT K H' a [.int (n.fdiv 4096), .int (n.fdiv 256 % 16), .int (n.fdiv 16 % 16), .int (n % 16)] → Q (.ref a) H'
theorem ok_parts (T : Txt K mg) : FnOk P w K mg base CX0 1 T.f_parts_of T.d_parts_of ["word"] (spParts K) := by
  have nd := sc_parts_of.nd
  refine T.F_parts_of.ok sc_parts_of (fun vs H Q E h => ?_) (fun cdv A outer s H vs Q E hr h => ?_)
  · obtain ⟨x, rfl, _⟩ := h
    rfl
  obtain ⟨n, rfl, k⟩ := h
  refine ⟨_, (pss_one (ps_ret (pe_tup (pa_cons (pe_op op_fdivN (pv 0) pe_int) (pa_cons (pe_op op_andM (pe_op op_fdivN (pv 0) pe_int) pe_int) (pa_cons (pe_op op_andM (pe_op op_fdivN (pv 0) pe_int) pe_int) (pa_cons (pe_op op_andM (pv 0) pe_int) pa_nil))))))), ?_⟩
  refine ⟨_, rfl, _, _, rfl, rfl, ⟨by decide, by decide⟩, ?_⟩
  refine ⟨_, rfl, _, _, rfl, rfl, ⟨by decide, by decide⟩, _, 4, rfl, rfl, ?_⟩
  refine ⟨_, rfl, _, _, rfl, rfl, ⟨by decide, by decide⟩, _, 4, rfl, rfl, ?_⟩
  refine ⟨_, rfl, _, 4, rfl, rfl, ?_⟩
  exact ⟨by show 4 ≤ sizeLine; decide, fun a ha => k a _ (same_new ha _) (SqT.of upd_same)⟩
def sk (ss : List (Str × Int)) : List (Key × V) := ss.map fun p => (Sum.inr p.1, V.int p.2)
def look (ss : List (Str × Int)) (t : Str) : Option Int := (ss.find? fun p => p.1 == t).map (·.2)
theorem sk_val (ss : List (Str × Int)) (t : Str) : valV (sk ss) (Sum.inr t) = (look ss t).map V.int := by
  induction ss with
  | nil => rfl
  | cons p ss ih =>
    obtain ⟨u, n⟩ := p
    show valV ((Sum.inr u, V.int n) :: sk ss) (Sum.inr t) = _
    unfold look
    by_cases e : u = t
    · subst e
      rw [valV_pos rfl, List.find?_cons_of_pos (by simp)]
      rfl
    · rw [valV_neg (fun z => e (Sum.inr.inj z)), ih, List.find?_cons_of_neg (by simpa using e)]
      rfl
def Ro.tgt (as : List Int) (ss : List (Str × Int)) : Ro → PyData
  | .jump t => .int (as.getD t 0)
  | .nought _ t => .int (as.getD t 0)
  | .call t _ => .int ((look ss t).getD 0)
  | _ => .none
def Ro.tok (as : List Int) (ss : List (Str × Int)) : Ro → Prop
  | .jump t => t < as.length
  | .nought _ t => t < as.length
  | .call t _ => (look ss t).isSome
  | _ => True
theorem Ro.tgtJ {r : Ro} {t : Nat} {as : List Int} {ss : List (Str × Int)} (h : r.isJ = true) (e : r.th = .jmp t) (hok : r.tok as ss) : t < as.length ∧ r.tgt as ss = .int (as.getD t 0) := by
  cases r with
  | jump u => cases e; exact ⟨hok, rfl⟩
  | nought b u => cases e; exact ⟨hok, rfl⟩
  | _ => cases h
def Ro.isC : Ro → Bool
  | .call _ _ => true
  | _ => false
theorem strsC : ((("beat" : Str) == "call") = false) ∧ ((("back" : Str) == "call") = false) ∧ ((("number" : Str) == "call") = false) ∧ ((("move" : Str) == "call") = false) ∧ ((("swap" : Str) == "call") = false) ∧ ((("call" : Str) == "call") = true) ∧ ((("jump" : Str) == "call") = false) ∧ ((("nought" : Str) == "call") = false) := by decide +kernel
theorem opV_noC : ∀ k : Fin 7, (opV k == "call") = false := by decide +kernel
theorem cellV_noC : ∀ k : Fin 3, (cellV k == "call") = false := by decide +kernel
theorem verb_cB (r : Ro) : (r.verb == "call") = r.isC := by
  obtain ⟨h1, h2, h3, h4, h5, h6, h7, h8⟩ := strsC
  cases r with
  | plain k => cases k; exact h2; exact h1
  | cell k c => exact cellV_noC k
  | num b n => exact h3
  | two k b c => cases k; exact h5; exact h4
  | op k b c d pl => exact opV_noC k
  | call t pl => exact h6
  | jump t => exact h7
  | nought b t => exact h8
theorem str_dec (a b : Str) : decide (V.str a = V.str b) = (a == b) := by
  by_cases h : a = b
  · subst h; simp
  · have h2 : ¬ V.str a = V.str b := fun z => h (V.str.inj z)
    rw [decide_eq_false h2]
    exact (beq_eq_false_iff_ne.mpr h).symm
theorem verb_c (r : Ro) : decide (V.str r.verb = V.str "call") = r.isC := by rw [str_dec, verb_cB]
def dV : PyData → V
  | .int i => .int i
  | _ => .non
def spTarget (K : PySem.W.Frag) : Sp := fun vs H Q _ => ∃ (x : V) (a c : Addr) (r : Ro) (as : List Int) (ss : List (Str × Int)), vs = [x, .ref a, .ref c] ∧ Dp K H x r.d ∧ SqL K H a (iV as) ∧ H c = some (.dK (sk ss)) ∧ r.tok as ss ∧ ∀ H', Same H H' → Q (dV (r.tgt as ss)) H'
theorem ok_target (T : Txt K mg) : FnOk P w K mg base CX0 1 T.f__target_of T.d__target_of ["row", "addresses", "starts"] (spTarget K) := by
  have nd := sc__target_of.nd
  refine T.F__target_of.ok sc__target_of (fun vs H Q E h => ?_) (fun cdv A outer s H vs Q E hr h => ?_)
  · obtain ⟨x, a, c, r, as, ss, rfl, _⟩ := h
    rfl
  obtain ⟨x, b, c, r, as, ss, rfl, hd, hb, hc, hok, k⟩ := h
  refine ⟨_, (pss_cons (ps_if (pt_cmpR op_in_seq (pe_ix ix_tup (pv 0) pe_int (fun _ _ => rfl)) (pe_tup (pa_cons pe_str (pa_cons pe_str pa_nil))) (by rfl)) (pss_one (ps_ret (pe_ix ix_list (pv 1) (pe_ix ix_tup (pv 0) (pe_un un_neg pe_int) (fun _ _ => rfl)) (fun _ _ => rfl)))) pss_nil)
      (pss_cons (ps_if (pt_cmpR op_eq (pe_ix ix_tup (pv 0) pe_int (fun _ _ => rfl)) pe_str (nomark _)) (pss_one (ps_ret (pe_dget (hu1 hr) (pv 2) (pe_ix ix_tup (pv 0) pe_int (fun _ _ => rfl)) (fun _ _ => rfl)))) pss_nil)
      (pss_one (ps_ret pe_non)))), ?_⟩
  obtain ⟨a, xs, rfl, ha, hx, h0⟩ := row_head hd
  refine ⟨_, rfl, a, _, _, _, rfl, rfl, ha, h0, (by show 2 ≤ sizeLine; decide), fun t1 ht1 => ?_⟩
  have e1 := same_new ht1 (.tup [.str "jump", .str "nought"])
  refine ⟨t1, [.str "jump", .str "nought"], rfl, .inr (SqT.of upd_same), rfl, rfl, _, rfl, ?_⟩
  rw [in_two, verb_j]
  cases hj : r.isJ with
  | true =>
    refine iteT ?_
    obtain ⟨t, ds, er, et⟩ := Ro.last hj
    rw [er] at hx
    obtain ⟨ys, z, rfl, hz⟩ := dp_lastI hx
    obtain rfl : z = .int t := by cases hz; rfl
    obtain ⟨g1, g2⟩ := Ro.tgtJ hj et hok
    have hat : atI (iV as) (t : Int) = some (V.int (as.getD t 0)) := atI_nat (iV_at g1)
    refine ⟨_, rfl, _, rfl, 1, rfl, a, _, _, _, rfl, rfl, seqT_same e1 ha, atI_last _ _, b, _, _, _, rfl, rfl, (e1.seq hb), hat, ?_⟩
    have kk := k _ e1
    rw [g2] at kk
    exact kk
  | false =>
    refine iteF ?_
    refine ⟨_, rfl, a, _, _, _, rfl, rfl, seqT_same e1 ha, h0, rfl, _, rfl, ?_⟩
    rw [verb_c]
    cases r with
    | call t pl =>
      refine iteT ?_
      obtain ⟨v, ev, hv⟩ := dp_nth hx (i := 1) (by show 1 < 3; decide)
      have hv' : Dp K H v (.str t) := hv
      obtain rfl : v = .str t := by cases hv'; rfl
      have hl : look ss t = some ((look ss t).getD 0) := by
        have : (look ss t).isSome := hok
        cases hh : look ss t with
        | none => rw [hh] at this; cases this
        | some n => rfl
      refine ⟨_, rfl, _, rfl, a, _, _, _, rfl, rfl, seqT_same e1 ha, atI_nat (j := 1) ev, ?_⟩
      have dg : DGet (upd H t1 (.tup [.str "jump", .str "nought"])) c (.str t) (valV (sk ss) (Sum.inr t)) := .inl ⟨_, Sum.inr t, .inl (e1 _ _ hc), rfl, rfl⟩
      rw [sk_val, hl] at dg
      exact ⟨c, _, rfl, dg, k _ e1⟩
    | jump t => cases hj
    | nought b t => cases hj
    | _ => exact iteF (k _ e1)
end
end Lk

set_option Elab.async false
set_option linter.all false
set_option maxRecDepth 100000
set_option maxHeartbeats 4000000
namespace Lk
open PySem PySem.Spec PyProof.Rows L2
section
variable {P : Program} {w : World} {K : PySem.W.Frag} {mg : Str → Option Value} {base : Heap}
def jw (r : Ro) (addr : Int) (lg : Bool) (s l c : Int) (t : Int) : List Int := if lg then [l * 4096 + c * 256, t] else [s * 4096 + c * 256 + (t - addr + 8)]
def Ro.words (addr : Int) (lg : Bool) (t : Int) : Ro → List Int
  | .plain k => [if k then 0 else 256]
  | .cell k c => [((k.val : Int) + 2) * 256 + c * 16]
  | .num b n => [4096 + b * 256, n]
  | .two k b c => [(if k then 2 else 3) * 4096 + b * 256 + c * 16]
  | .op k b c d _ => [((k.val : Int) + 4) * 4096 + b * 256 + c * 16 + d]
  | .call _ _ => [61440, t]
  | .jump _ => if lg then [49152, t] else [45056 + (t - addr + 8)]
  | .nought b _ => if lg then [57344 + b * 256, t] else [53248 + b * 256 + (t - addr + 8)]
def Ro.isT : Ro → Bool
  | .call _ _ => true
  | r => r.isJ
def Ro.isP : Ro → Bool
  | .plain _ => true
  | .cell _ _ => true
  | _ => false
def pvs : List V := (["beat", "back", "tell", "keep", "fetch"] : List Str).map V.str
theorem strsP : (inV (.str "beat") pvs = true) ∧ (inV (.str "back") pvs = true) ∧ (inV (.str "number") pvs = false) ∧ (inV (.str "move") pvs = false) ∧ (inV (.str "swap") pvs = false) ∧ (inV (.str "call") pvs = false) ∧ (inV (.str "jump") pvs = false) ∧ (inV (.str "nought") pvs = false) := by decide +kernel
theorem opV_P : ∀ k : Fin 7, inV (.str (opV k)) pvs = false := by decide +kernel
theorem cellV_P : ∀ k : Fin 3, inV (.str (cellV k)) pvs = true := by decide +kernel
theorem verb_P (r : Ro) : inV (.str r.verb) ((["beat", "back", "tell", "keep", "fetch"] : List Str).map V.str) = r.isP := by
  obtain ⟨h1, h2, h3, h4, h5, h6, h7, h8⟩ := strsP
  cases r with
  | plain k => cases k; exact h2; exact h1
  | cell k c => exact cellV_P k
  | num b n => exact h3
  | two k b c => cases k; exact h5; exact h4
  | op k b c d pl => exact opV_P k
  | call t pl => exact h6
  | jump t => exact h7
  | nought b t => exact h8
def spRW (K : PySem.W.Frag) : Sp := fun vs H Q _ => ∃ (x y : V) (r : Ro) (addr : Int) (lg : Bool) (t : Int), vs = [x, .int addr, .bl lg, y] ∧ Dp K H x r.d ∧ (r.isT = true → y = .int t) ∧ ∀ p H', Same H H' → H p = none → H' p = some (.lst (iV (r.words addr lg t))) → Q (.ref p) H'
theorem cellV_idx : ∀ q : Fin 3, cellV q ∈ (["beat", "back", "tell", "keep", "fetch"] : List Str) ∧ (["beat", "back", "tell", "keep", "fetch"] : List Str).idxOf (cellV q) = q.val + 2 := by decide +kernel
theorem arg_at {K : PySem.W.Frag} {H : Hp} {xs : List V} {v : PyData} {ds : List PyData} {i : Nat} {n : Int} (h : DpAll K H xs (v :: ds)) (e : ds[i]? = some (.int n)) : atI xs ((i + 1 : Nat) : Int) = some (.int n) := by
  obtain ⟨hi, e'⟩ := List.getElem?_eq_some_iff.mp e
  obtain ⟨x, ex, hx⟩ := dp_nth h (i := i + 1) (by simp only [List.length_cons]; omega)
  rw [List.getElem_cons_succ, e'] at hx
  obtain rfl : x = .int n := by cases hx; rfl
  exact atI_nat ex
theorem sN : ((("move" : Str) == "number") = false) ∧ ((("swap" : Str) == "number") = false) ∧ ((("swap" : Str) == "move") = false) := by decide +kernel
def opL : List Str := ["add", "sub", "mul", "div", "rem", "less", "same"]
theorem opV_idx : ∀ q : Fin 7, (opV q == "number") = false ∧ (opV q == "move") = false ∧ (opV q == "swap") = false ∧ inV (.str (opV q)) (opL.map V.str) = true ∧ opV q ∈ opL ∧ opL.idxOf (opV q) = q.val := by decide +kernel
theorem sCall : ((("call" : Str) == "number") = false) ∧ ((("call" : Str) == "move") = false) ∧ ((("call" : Str) == "swap") = false) ∧ inV (.str "call") (opL.map V.str) = false := by decide +kernel
theorem sJump : ((("jump" : Str) == "number") = false) ∧ ((("jump" : Str) == "move") = false) ∧ ((("jump" : Str) == "swap") = false) ∧ inV (.str "jump") (opL.map V.str) = false ∧ ((("jump" : Str) == "call") = false) ∧ ((("jump" : Str) == "nought") = false) := by decide +kernel
theorem sNought : ((("nought" : Str) == "number") = false) ∧ ((("nought" : Str) == "move") = false) ∧ ((("nought" : Str) == "swap") = false) ∧ inV (.str "nought") (opL.map V.str) = false ∧ ((("nought" : Str) == "call") = false) := by decide +kernel
theorem ok_row_words (T : Txt K mg) : FnOk P w K mg base CX0 2 T.f__row_words T.d__row_words ["row", "address", "is_long", "target"] (spRW K) := by
  have nd := sc__row_words.nd
  refine T.F__row_words.ok sc__row_words (fun vs H Q E h => ?_) (fun cdv A outer s H vs Q E hr h => ?_)
  · obtain ⟨x, y, r, addr, lg, t, rfl, _⟩ := h
    rfl
  obtain ⟨x, y, r, addr, lg, t, rfl, hd, hy, k⟩ := h
  have G_word_of : FnOk P w K mg base CX0 1 _ _ _ (spWord K) := ok_word_of T
  have hr_word_of := hr
  refine ⟨_, (pss_cons (ps_set (i := 4) nd rfl (Or.inl rfl) (pe_ix ix_tup (pv 0) pe_int (fun _ _ => rfl)))
      (pss_cons (ps_if (pt_cmpR op_in_seq (pv 4) (pe_glob (v := .ref T.a_PLAIN_VERBS) rfl T.c_PLAIN_VERBS rfl) (by rfl)) (pss_cons (ps_set (i := 5) nd rfl (Or.inl rfl) (pe_ifExp (pt_cmpR op_gt (pe_callB call_len_seq (by rfl) T.z_len PySem.boot_len (pa_cons (pv 0) pa_nil)) pe_int (nomark _)) (pe_ix ix_tup (pv 0) pe_int (fun _ _ => rfl)) pe_int))
      (pss_one (ps_ret (pe_lst (pa_cons (pe_call G_word_of hr_word_of rfl T.m_word_of T.k_word_of T.b_word_of_3 T.v_word_of_3 pass0 (pa_cons (pe_glob (v := .int (0)) rfl T.c_PLAIN ⟨_, rfl⟩) (pa_cons (pe_bm PySem.F.plainAttrs_tuple PySem.F.slot_tuple_index PySem.F.type_tuple_index mt_tindex (pe_glob (v := .ref T.a_PLAIN_VERBS) rfl T.c_PLAIN_VERBS rfl) (pa_cons (pv 4) pa_nil)) (pa_cons (pv 5) pa_nil)))) pa_nil))))) pss_nil)
      (pss_cons (ps_if (pt_cmpR op_eq (pv 4) pe_str (nomark _)) (pss_one (ps_ret (pe_lst (pa_cons (pe_call G_word_of hr_word_of rfl T.m_word_of T.k_word_of T.b_word_of_2 T.v_word_of_2 pass0 (pa_cons (pe_glob (v := .int (1)) rfl T.c_NUMBER ⟨_, rfl⟩) (pa_cons (pe_ix ix_tup (pv 0) pe_int (fun _ _ => rfl)) pa_nil))) (pa_cons (pe_ix ix_tup (pv 0) pe_int (fun _ _ => rfl)) pa_nil))))) pss_nil)
      (pss_cons (ps_if (pt_cmpR op_eq (pv 4) pe_str (nomark _)) (pss_one (ps_ret (pe_lst (pa_cons (pe_call G_word_of hr_word_of rfl T.m_word_of T.k_word_of T.b_word_of_3 T.v_word_of_3 pass0 (pa_cons (pe_glob (v := .int (2)) rfl T.c_MOVE ⟨_, rfl⟩) (pa_cons (pe_ix ix_tup (pv 0) pe_int (fun _ _ => rfl)) (pa_cons (pe_ix ix_tup (pv 0) pe_int (fun _ _ => rfl)) pa_nil)))) pa_nil)))) pss_nil)
      (pss_cons (ps_if (pt_cmpR op_eq (pv 4) pe_str (nomark _)) (pss_one (ps_ret (pe_lst (pa_cons (pe_call G_word_of hr_word_of rfl T.m_word_of T.k_word_of T.b_word_of_3 T.v_word_of_3 pass0 (pa_cons (pe_glob (v := .int (3)) rfl T.c_SWAP ⟨_, rfl⟩) (pa_cons (pe_ix ix_tup (pv 0) pe_int (fun _ _ => rfl)) (pa_cons (pe_ix ix_tup (pv 0) pe_int (fun _ _ => rfl)) pa_nil)))) pa_nil)))) pss_nil)
      (pss_cons (ps_if (pt_cmpR op_in_seq (pv 4) (pe_glob (v := .ref T.a_OPERATIONS) rfl T.c_OPERATIONS rfl) (by rfl)) (pss_one (ps_ret (pe_lst (pa_cons (pe_call G_word_of hr_word_of rfl T.m_word_of T.k_word_of T.b_word_of_4 T.v_word_of_4 pass0 (pa_cons (pe_op op_add (pe_op op_add (pe_glob (v := .int (3)) rfl T.c_SWAP ⟨_, rfl⟩) pe_int) (pe_bm PySem.F.plainAttrs_tuple PySem.F.slot_tuple_index PySem.F.type_tuple_index mt_tindex (pe_glob (v := .ref T.a_OPERATIONS) rfl T.c_OPERATIONS rfl) (pa_cons (pv 4) pa_nil))) (pa_cons (pe_ix ix_tup (pv 0) pe_int (fun _ _ => rfl)) (pa_cons (pe_ix ix_tup (pv 0) pe_int (fun _ _ => rfl)) (pa_cons (pe_ix ix_tup (pv 0) pe_int (fun _ _ => rfl)) pa_nil))))) pa_nil)))) pss_nil)
      (pss_cons (ps_if (pt_cmpR op_eq (pv 4) pe_str (nomark _)) (pss_one (ps_ret (pe_lst (pa_cons (pe_call G_word_of hr_word_of rfl T.m_word_of T.k_word_of T.b_word_of_1 T.v_word_of_1 pass0 (pa_cons (pe_glob (v := .int (15)) rfl T.c_CALL ⟨_, rfl⟩) pa_nil)) (pa_cons (pv 3) pa_nil))))) pss_nil)
      (pss_cons (ps_set (i := 6) nd rfl (Or.inl rfl) (pe_tup (pa_cons (pe_glob (v := .int (11)) rfl T.c_SHORT_JUMP ⟨_, rfl⟩) (pa_cons (pe_glob (v := .int (12)) rfl T.c_LONG_JUMP ⟨_, rfl⟩) pa_nil))))
      (pss_cons (ps_set (i := 5) nd rfl (Or.inl rfl) pe_int)
      (pss_cons (ps_if (pt_cmpR op_eq (pv 4) pe_str (nomark _)) (pss_cons (ps_set (i := 6) nd rfl (Or.inl rfl) (pe_tup (pa_cons (pe_glob (v := .int (13)) rfl T.c_SHORT_NOUGHT ⟨_, rfl⟩) (pa_cons (pe_glob (v := .int (14)) rfl T.c_LONG_NOUGHT ⟨_, rfl⟩) pa_nil))))
      (pss_one (ps_set (i := 5) nd rfl (Or.inl rfl) (pe_ix ix_tup (pv 0) pe_int (fun _ _ => rfl))))) pss_nil)
      (pss_cons (ps_if (pt_val (pv 2)) (pss_one (ps_ret (pe_lst (pa_cons (pe_call G_word_of hr_word_of rfl T.m_word_of T.k_word_of T.b_word_of_2 T.v_word_of_2 pass0 (pa_cons (pe_ix ix_tup (pv 6) pe_int (fun _ _ => rfl)) (pa_cons (pv 5) pa_nil))) (pa_cons (pv 3) pa_nil))))) pss_nil)
      (pss_one (ps_ret (pe_lst (pa_cons (pe_call G_word_of hr_word_of rfl T.m_word_of T.k_word_of T.b_word_of_4 T.v_word_of_4 pass0 (pa_cons (pe_ix ix_tup (pv 6) pe_int (fun _ _ => rfl)) (pa_cons (pv 5) (pa_cons pe_int (pa_cons (pe_op op_add (pe_op op_sub (pv 3) (pv 1)) (pe_glob (v := .int (8)) rfl T.c_SHORT_OFFSET ⟨_, rfl⟩)) pa_nil))))) pa_nil))))))))))))))), ?_⟩
  obtain ⟨a, xs, rfl, ha, hx, h0⟩ := row_head hd
  refine ⟨_, rfl, a, _, _, _, rfl, rfl, ha, h0, ?_⟩
  refine ⟨_, rfl, T.a_PLAIN_VERBS, _, rfl, .inr (T.s_PLAIN_VERBS H), rfl, rfl, _, rfl, ?_⟩
  rw [verb_P]
  have eP : ((["beat", "back", "tell", "keep", "fetch"] : List Str).map V.str).length = 5 := rfl
  cases r with
  | plain q =>
    refine iteT ?_
    obtain ⟨z, rfl⟩ : ∃ z, xs = [z] := by
      have := dp_len hx
      match xs, this with
      | [z], _ => exact ⟨z, rfl⟩
    refine ⟨_, rfl, a, _, rfl, .inr ha, _, _, rfl, rfl, _, rfl, ?_⟩
    refine iteF ?_
    cases q with
    | true =>
      refine ⟨T.y_PLAIN_VERBS H, _, rfl, T.a_PLAIN_VERBS, _, "beat", rfl, rfl, T.s_PLAIN_VERBS H, by decide +kernel, _, rfl, 0, _, 0, 0, rfl, ?_⟩
      refine ⟨(by show 1 ≤ sizeLine; decide), fun p hp => k p _ (same_new hp _) hp ?_⟩
      rw [upd_same]; rfl
    | false =>
      refine ⟨T.y_PLAIN_VERBS H, _, rfl, T.a_PLAIN_VERBS, _, "back", rfl, rfl, T.s_PLAIN_VERBS H, by decide +kernel, _, rfl, 0, _, 0, 0, rfl, ?_⟩
      refine ⟨(by show 1 ≤ sizeLine; decide), fun p hp => k p _ (same_new hp _) hp ?_⟩
      rw [upd_same]; rfl
  | cell q c =>
    refine iteT ?_
    obtain ⟨z1, z2, rfl⟩ : ∃ z1 z2, xs = [z1, z2] := by
      have := dp_len hx
      match xs, this with
      | [z1, z2], _ => exact ⟨z1, z2, rfl⟩
    have h1 := arg_at (i := 0) hx (by rfl : _ = some (PyData.int c))
    refine ⟨_, rfl, a, _, rfl, .inr ha, _, _, rfl, rfl, _, rfl, ?_⟩
    refine iteT ?_
    refine ⟨_, rfl, a, _, _, _, rfl, rfl, ha, h1, ?_⟩
    obtain ⟨m1, m2⟩ := cellV_idx q
    refine ⟨T.y_PLAIN_VERBS H, _, rfl, T.a_PLAIN_VERBS, _, cellV q, rfl, rfl, T.s_PLAIN_VERBS H, m1, _, rfl, 0, _, c, 0, rfl, ?_⟩
    refine ⟨(by show 1 ≤ sizeLine; decide), fun p hp => k p _ (same_new hp _) hp ?_⟩
    rw [upd_same, m2]
    show some (HO.lst [.int (0 * 4096 + ((q.val + 2 : Nat) : Int) * 256 + c * 16 + 0)]) = some (HO.lst [.int (((q.val : Int) + 2) * 256 + c * 16)])
    rw [show (0 * 4096 + ((q.val + 2 : Nat) : Int) * 256 + c * 16 + 0) = ((q.val : Int) + 2) * 256 + c * 16 by omega]
  | num b n =>
    refine iteF ?_
    have h1 := arg_at (i := 0) hx (by rfl : _ = some (PyData.int b))
    have h2 := arg_at (i := 1) hx (by rfl : _ = some (PyData.int n))
    refine ⟨_, rfl, rfl, _, rfl, ?_⟩
    rw [show decide (V.str (Ro.num b n).verb = V.str "number") = true from decide_eq_true rfl]
    refine iteT ?_
    refine ⟨_, rfl, a, _, _, _, rfl, rfl, ha, h1, 1, b, 0, 0, rfl, ?_⟩
    refine ⟨_, rfl, a, _, _, _, rfl, rfl, ha, h2, (by show 2 ≤ sizeLine; decide), fun p hp => k p _ (same_new hp _) hp ?_⟩
    rw [upd_same]
    show some (HO.lst [.int (1 * 4096 + b * 256 + 0 * 16 + 0), .int n]) = some (HO.lst [.int (4096 + b * 256), .int n])
    rw [show (1 * 4096 + b * 256 + 0 * 16 + 0 : Int) = 4096 + b * 256 by omega]
  | two q b c =>
    refine iteF ?_
    have h1 := arg_at (i := 0) hx (by rfl : _ = some (PyData.int b))
    have h2 := arg_at (i := 1) hx (by rfl : _ = some (PyData.int c))
    cases q with
    | true =>
      refine ⟨_, rfl, rfl, _, rfl, ?_⟩
      rw [show decide (V.str (Ro.two true b c).verb = V.str "number") = false from by rw [str_dec]; exact sN.1]
      refine iteF ?_
      refine ⟨_, rfl, rfl, _, rfl, ?_⟩
      rw [show decide (V.str (Ro.two true b c).verb = V.str "move") = true from decide_eq_true rfl]
      refine iteT ?_
      refine ⟨_, rfl, a, _, _, _, rfl, rfl, ha, h1, _, rfl, a, _, _, _, rfl, rfl, ha, h2, 2, b, c, 0, rfl, ?_⟩
      refine ⟨(by show 1 ≤ sizeLine; decide), fun p hp => k p _ (same_new hp _) hp ?_⟩
      rw [upd_same]
      show some (HO.lst [.int (2 * 4096 + b * 256 + c * 16 + 0)]) = some (HO.lst [.int (2 * 4096 + b * 256 + c * 16)])
      rw [Int.add_zero]
    | false =>
      refine ⟨_, rfl, rfl, _, rfl, ?_⟩
      rw [show decide (V.str (Ro.two false b c).verb = V.str "number") = false from by rw [str_dec]; exact sN.2.1]
      refine iteF ?_
      refine ⟨_, rfl, rfl, _, rfl, ?_⟩
      rw [show decide (V.str (Ro.two false b c).verb = V.str "move") = false from by rw [str_dec]; exact sN.2.2]
      refine iteF ?_
      refine ⟨_, rfl, rfl, _, rfl, ?_⟩
      rw [show decide (V.str (Ro.two false b c).verb = V.str "swap") = true from decide_eq_true rfl]
      refine iteT ?_
      refine ⟨_, rfl, a, _, _, _, rfl, rfl, ha, h1, _, rfl, a, _, _, _, rfl, rfl, ha, h2, 3, b, c, 0, rfl, ?_⟩
      refine ⟨(by show 1 ≤ sizeLine; decide), fun p hp => k p _ (same_new hp _) hp ?_⟩
      rw [upd_same]
      show some (HO.lst [.int (3 * 4096 + b * 256 + c * 16 + 0)]) = some (HO.lst [.int (3 * 4096 + b * 256 + c * 16)])
      rw [Int.add_zero]
  | op q b c d pl =>
    refine iteF ?_
    have h1 := arg_at (i := 0) hx (by rfl : _ = some (PyData.int b))
    have h2 := arg_at (i := 1) hx (by rfl : _ = some (PyData.int c))
    have h3 := arg_at (i := 2) hx (by rfl : _ = some (PyData.int d))
    obtain ⟨n1, n2, n3, n4, n5, n6⟩ := opV_idx q
    refine ⟨_, rfl, rfl, _, rfl, ?_⟩
    rw [show decide (V.str (Ro.op q b c d pl).verb = V.str "number") = false from by rw [str_dec]; exact n1]
    refine iteF ?_
    refine ⟨_, rfl, rfl, _, rfl, ?_⟩
    rw [show decide (V.str (Ro.op q b c d pl).verb = V.str "move") = false from by rw [str_dec]; exact n2]
    refine iteF ?_
    refine ⟨_, rfl, rfl, _, rfl, ?_⟩
    rw [show decide (V.str (Ro.op q b c d pl).verb = V.str "swap") = false from by rw [str_dec]; exact n3]
    refine iteF ?_
    refine ⟨_, rfl, T.a_OPERATIONS, _, rfl, .inr (T.s_OPERATIONS H), rfl, rfl, _, rfl, ?_⟩
    rw [show inV (.str (Ro.op q b c d pl).verb) ((["add", "sub", "mul", "div", "rem", "less", "same"] : List Str).map V.str) = true from n4]
    refine iteT ?_
    refine ⟨_, _, rfl, rfl, T.y_OPERATIONS H, _, rfl, T.a_OPERATIONS, _, opV q, rfl, rfl, T.s_OPERATIONS H, n5, ?_⟩
    refine ⟨_, _, rfl, rfl, _, rfl, a, _, _, _, rfl, rfl, ha, h1, _, rfl, a, _, _, _, rfl, rfl, ha, h2, _, rfl, a, _, _, _, rfl, rfl, ha, h3, _, b, c, d, rfl, ?_⟩
    refine ⟨(by show 1 ≤ sizeLine; decide), fun p hp => k p _ (same_new hp _) hp ?_⟩
    have n6' : (["add", "sub", "mul", "div", "rem", "less", "same"] : List Str).idxOf (opV q) = q.val := n6
    rw [upd_same, n6']
    show some (HO.lst [.int ((3 + 1 + ((q.val : Nat) : Int)) * 4096 + b * 256 + c * 16 + d)]) = some (HO.lst [.int (((q.val : Int) + 4) * 4096 + b * 256 + c * 16 + d)])
    rw [show ((3 + 1 + ((q.val : Nat) : Int)) : Int) = (q.val : Int) + 4 by omega]
  | call u pl =>
    refine iteF ?_
    obtain ⟨n1, n2, n3, n4⟩ := sCall
    obtain rfl := hy rfl
    refine ⟨_, rfl, rfl, _, rfl, ?_⟩
    rw [show decide (V.str (Ro.call u pl).verb = V.str "number") = false from by rw [str_dec]; exact n1]
    refine iteF ?_
    refine ⟨_, rfl, rfl, _, rfl, ?_⟩
    rw [show decide (V.str (Ro.call u pl).verb = V.str "move") = false from by rw [str_dec]; exact n2]
    refine iteF ?_
    refine ⟨_, rfl, rfl, _, rfl, ?_⟩
    rw [show decide (V.str (Ro.call u pl).verb = V.str "swap") = false from by rw [str_dec]; exact n3]
    refine iteF ?_
    refine ⟨_, rfl, T.a_OPERATIONS, _, rfl, .inr (T.s_OPERATIONS H), rfl, rfl, _, rfl, ?_⟩
    rw [show inV (.str (Ro.call u pl).verb) ((["add", "sub", "mul", "div", "rem", "less", "same"] : List Str).map V.str) = false from n4]
    refine iteF ?_
    refine ⟨_, rfl, rfl, _, rfl, ?_⟩
    rw [show decide (V.str (Ro.call u pl).verb = V.str "call") = true from decide_eq_true rfl]
    refine iteT ?_
    refine ⟨15, 0, 0, 0, rfl, _, rfl, (by show 2 ≤ sizeLine; decide), fun p hp => k p _ (same_new hp _) hp ?_⟩
    rw [upd_same]
    rfl
  | jump u =>
    refine iteF ?_
    obtain ⟨n1, n2, n3, n4, n5, n6⟩ := sJump
    obtain rfl := hy rfl
    refine ⟨_, rfl, rfl, _, rfl, ?_⟩
    rw [show decide (V.str (Ro.jump u).verb = V.str "number") = false from by rw [str_dec]; exact n1]
    refine iteF ?_
    refine ⟨_, rfl, rfl, _, rfl, ?_⟩
    rw [show decide (V.str (Ro.jump u).verb = V.str "move") = false from by rw [str_dec]; exact n2]
    refine iteF ?_
    refine ⟨_, rfl, rfl, _, rfl, ?_⟩
    rw [show decide (V.str (Ro.jump u).verb = V.str "swap") = false from by rw [str_dec]; exact n3]
    refine iteF ?_
    refine ⟨_, rfl, T.a_OPERATIONS, _, rfl, .inr (T.s_OPERATIONS H), rfl, rfl, _, rfl, ?_⟩
    rw [show inV (.str (Ro.jump u).verb) ((["add", "sub", "mul", "div", "rem", "less", "same"] : List Str).map V.str) = false from n4]
    refine iteF ?_
    refine ⟨_, rfl, rfl, _, rfl, ?_⟩
    rw [show decide (V.str (Ro.jump u).verb = V.str "call") = false from by rw [str_dec]; exact n5]
    refine iteF ?_
    refine ⟨(by show 2 ≤ sizeLine; decide), fun t1 ht1 => ?_⟩
    have e1 := same_new ht1 (.tup [.int 11, .int 12])
    refine ⟨_, rfl, rfl, _, rfl, ?_⟩
    rw [show decide (V.str (Ro.jump u).verb = V.str "nought") = false from by rw [str_dec]; exact n6]
    refine iteF ?_
    cases lg with
    | true =>
      refine ⟨_, rfl, _, rfl, ?_⟩
      refine iteT ?_
      refine ⟨_, rfl, t1, _, _, _, rfl, rfl, SqT.of upd_same, rfl, _, rfl, 12, 0, 0, 0, rfl, _, rfl, (by show 2 ≤ sizeLine; decide), fun p hp => k p _ (e1.trans (same_new hp _)) (none_of e1 hp) ?_⟩
      rw [upd_same]
      show some (HO.lst [.int (12 * 4096 + 0 * 256 + 0 * 16 + 0), .int t]) = some (HO.lst [.int (49152), .int t])
      rw [show (12 * 4096 + 0 * 256 + 0 * 16 + 0 : Int) = 49152 by omega]
    | false =>
      refine ⟨_, rfl, _, rfl, ?_⟩
      refine iteF ?_
      refine ⟨_, rfl, t1, _, _, _, rfl, rfl, SqT.of upd_same, rfl, _, rfl, _, rfl, _, rfl, _, _, rfl, rfl, _, _, rfl, rfl, 11, 0, 0, _, rfl, (by show 1 ≤ sizeLine; decide), fun p hp => k p _ (e1.trans (same_new hp _)) (none_of e1 hp) ?_⟩
      rw [upd_same]
      show some (HO.lst [.int (11 * 4096 + 0 * 256 + 0 * 16 + (t - addr + 8))]) = some (HO.lst [.int (45056 + (t - addr + 8))])
      rw [show (11 * 4096 + 0 * 256 + 0 * 16 + (t - addr + 8) : Int) = 45056 + (t - addr + 8) by omega]
  | nought b u =>
    refine iteF ?_
    obtain ⟨n1, n2, n3, n4, n5⟩ := sNought
    obtain rfl := hy rfl
    refine ⟨_, rfl, rfl, _, rfl, ?_⟩
    rw [show decide (V.str (Ro.nought b u).verb = V.str "number") = false from by rw [str_dec]; exact n1]
    refine iteF ?_
    refine ⟨_, rfl, rfl, _, rfl, ?_⟩
    rw [show decide (V.str (Ro.nought b u).verb = V.str "move") = false from by rw [str_dec]; exact n2]
    refine iteF ?_
    refine ⟨_, rfl, rfl, _, rfl, ?_⟩
    rw [show decide (V.str (Ro.nought b u).verb = V.str "swap") = false from by rw [str_dec]; exact n3]
    refine iteF ?_
    refine ⟨_, rfl, T.a_OPERATIONS, _, rfl, .inr (T.s_OPERATIONS H), rfl, rfl, _, rfl, ?_⟩
    rw [show inV (.str (Ro.nought b u).verb) ((["add", "sub", "mul", "div", "rem", "less", "same"] : List Str).map V.str) = false from n4]
    refine iteF ?_
    refine ⟨_, rfl, rfl, _, rfl, ?_⟩
    rw [show decide (V.str (Ro.nought b u).verb = V.str "call") = false from by rw [str_dec]; exact n5]
    refine iteF ?_
    refine ⟨(by show 2 ≤ sizeLine; decide), fun t1 ht1 => ?_⟩
    have h1 := arg_at (i := 0) hx (by rfl : _ = some (PyData.int b))
    have e1 := same_new ht1 (.tup [.int 11, .int 12])
    refine ⟨_, rfl, rfl, _, rfl, ?_⟩
    rw [show decide (V.str (Ro.nought b u).verb = V.str "nought") = true from decide_eq_true rfl]
    refine iteT ?_
    refine ⟨(by show 2 ≤ sizeLine; decide), fun t2 ht2 => ?_⟩
    have e2 := e1.trans (same_new ht2 (.tup [.int 13, .int 14]))
    refine ⟨_, rfl, a, _, _, _, rfl, rfl, seqT_same e2 ha, h1, ?_⟩
    cases lg with
    | true =>
      refine ⟨_, rfl, _, rfl, ?_⟩
      refine iteT ?_
      refine ⟨_, rfl, t2, _, _, _, rfl, rfl, SqT.of upd_same, rfl, _, rfl, 14, b, 0, 0, rfl, _, rfl, (by show 2 ≤ sizeLine; decide), fun p hp => k p _ (e2.trans (same_new hp _)) (none_of e2 hp) ?_⟩
      rw [upd_same]
      show some (HO.lst [.int (14 * 4096 + b * 256 + 0 * 16 + 0), .int t]) = some (HO.lst [.int (57344 + b * 256), .int t])
      rw [show (14 * 4096 + b * 256 + 0 * 16 + 0 : Int) = 57344 + b * 256 by omega]
    | false =>
      refine ⟨_, rfl, _, rfl, ?_⟩
      refine iteF ?_
      refine ⟨_, rfl, t2, _, _, _, rfl, rfl, SqT.of upd_same, rfl, _, rfl, _, rfl, _, rfl, _, _, rfl, rfl, _, _, rfl, rfl, 13, b, 0, _, rfl, (by show 1 ≤ sizeLine; decide), fun p hp => k p _ (e2.trans (same_new hp _)) (none_of e2 hp) ?_⟩
      rw [upd_same]
      show some (HO.lst [.int (13 * 4096 + b * 256 + 0 * 16 + (t - addr + 8))]) = some (HO.lst [.int (53248 + b * 256 + (t - addr + 8))])
      rw [show (13 * 4096 + b * 256 + 0 * 16 + (t - addr + 8) : Int) = 53248 + b * 256 + (t - addr + 8) by omega]
end
end Lk

set_option Elab.async false
set_option linter.all false
set_option maxRecDepth 100000
set_option maxHeartbeats 4000000
namespace Lk
open PySem PySem.Spec PyProof.Rows L2
/-! ### the mathematics of words and rows -/
def csOf (rs : List Ro) : List Nat := leastL (thsOf rs) (-8) 7
def adr (rs : List Ro) (k : Nat) : Int := addrAt (csOf rs) (thsOf rs) k
def total (rs : List Ro) : Int := adr rs rs.length
structure Ent where
  a : Int
  r : Ro
  lg : Bool
  t : Int
def Ent.ws (e : Ent) : List Int := e.r.words e.a e.lg e.t
def Ro.to (f : Nat → Int) (ss : List (Str × Int)) : Ro → Int
  | .jump t => f t
  | .nought _ t => f t
  | .call t _ => (look ss t).getD 0
  | _ => 0
def entAt (b : Int) (ss : List (Str × Int)) (rs : List Ro) (k : Nat) : Ent :=
  ⟨b + adr rs k, rs.getD k (.plain true), decide (k ∈ csOf rs), (rs.getD k (.plain true)).to (fun t => b + adr rs t) ss⟩
def entsTo (b : Int) (ss : List (Str × Int)) (rs : List Ro) (n : Nat) : List Ent := (List.range n).map (entAt b ss rs)
def Fns := List (Str × List Ro)
def Fns.at (fs : List (Str × List Ro)) (j : Nat) : Str × List Ro := fs.getD j ("", [])
def baseAt (fs : List (Str × List Ro)) : Nat → Int
  | 0 => 0
  | j + 1 => baseAt fs j + total (Fns.at fs j).2
def startsTo (fs : List (Str × List Ro)) (n : Nat) : List (Str × Int) := (List.range n).map fun j => ((Fns.at fs j).1, baseAt fs j)
def startsOf (fs : List (Str × List Ro)) : List (Str × Int) := startsTo fs fs.length
def fnEnts (fs : List (Str × List Ro)) (j : Nat) : List Ent := entsTo (baseAt fs j) (startsOf fs) (Fns.at fs j).2 (Fns.at fs j).2.length
def allTo (fs : List (Str × List Ro)) (n : Nat) : List Ent := (List.range n).flatMap (fnEnts fs)
def allE (fs : List (Str × List Ro)) : List Ent := allTo fs fs.length
def wordsE (es : List Ent) : List Int := es.flatMap Ent.ws
def Ro.place (t : Str) (a : Int) : Ro → List PyData
  | .op _ _ _ _ (some n) => [.tuple [.int a, .str t, .int n]]
  | .call _ n => [.tuple [.int a, .str t, .int n]]
  | _ => []
def Ro.back (t : Int) : Ro → PyData
  | .plain k => .tuple [.str (Ro.plain k).verb]
  | .cell k c => .tuple [.str (cellV k), .int c]
  | .num b n => .tuple [.str "number", .int b, .int n]
  | .two k b c => .tuple [.str (Ro.two k b c).verb, .int b, .int c]
  | .op k b c d _ => .tuple [.str (opV k), .int b, .int c, .int d]
  | .call _ _ => .tuple [.str "call", .int t]
  | .jump _ => .tuple [.str "jump", .int t]
  | .nought b _ => .tuple [.str "nought", .int b, .int t]
def Ent.back (e : Ent) : PyData := .tuple [.int e.a, e.r.back e.t]
def placesTo (fs : List (Str × List Ro)) (j n : Nat) : List PyData := (entsTo (baseAt fs j) (startsOf fs) (Fns.at fs j).2 n).flatMap fun e => e.r.place (Fns.at fs j).1 e.a
def placesAll (fs : List (Str × List Ro)) (n : Nat) : List PyData := (List.range n).flatMap fun j => placesTo fs j (Fns.at fs j).2.length
def mainAt (fs : List (Str × List Ro)) : Int := (look (startsOf fs) "main").getD 0
def fnD (p : Str × List Ro) : PyData := .tuple [.str p.1, .int 0, rowsD p.2]
def linkedD (n tk g : Int) (fs : List (Str × List Ro)) : PyData := .tuple [.int n, .int tk, .int g, .tuple (fs.map fnD)]
def imageD (n tk g : Int) (fs : List (Str × List Ro)) : PyData :=
  .tuple [.tuple ((wordsE (allE fs)).map .int), .int (mainAt fs), .int n, .int tk, .int g, .tuple (placesAll fs fs.length)]
def backD (es : List Ent) : PyData := .tuple (es.map Ent.back)
/-! what a program must be -/
def reg (b : Int) : Prop := 0 ≤ b ∧ b ≤ 15
def sml (n : Int) : Prop := 0 ≤ n ∧ n < 1000000
def Ro.fit (n : Nat) (ts : List Str) : Ro → Prop
  | .plain _ => True
  | .cell _ c => reg c
  | .num b n => reg b ∧ sml n
  | .two _ b c => reg b ∧ reg c
  | .op k b c d pl => reg b ∧ reg c ∧ reg d ∧ (pl.isSome = true ↔ (k = 3 ∨ k = 4)) ∧ (∀ n, pl = some n → sml n)
  | .call t n => t ∈ ts ∧ sml n
  | .jump t => t ≤ n
  | .nought b t => reg b ∧ t ≤ n
structure WF (fs : List (Str × List Ro)) : Prop where
  nd : (fs.map (·.1)).Nodup
  main : ("main" : Str) ∈ fs.map (·.1)
  few : fs.length ≤ 10
  len : ∀ p ∈ fs, p.2.length ≤ 2000
  fit : ∀ p ∈ fs, ∀ r ∈ p.2, r.fit p.2.length (fs.map (·.1))
  str : ∀ p ∈ fs, (reprText p.1).length ≤ 20
theorem Fns.at_mem {fs : List (Str × List Ro)} {j : Nat} (h : j < fs.length) : Fns.at fs j ∈ fs := by
  unfold Fns.at
  rw [List.getD_eq_getElem?_getD, List.getElem?_eq_getElem h]
  exact List.getElem_mem h
theorem Fns.at_eq {fs : List (Str × List Ro)} {j : Nat} (h : j < fs.length) : fs[j]? = some (Fns.at fs j) := by
  unfold Fns.at
  rw [List.getD_eq_getElem?_getD, List.getElem?_eq_getElem h]
  rfl
/-! the least set: nothing is left too far -/
theorem least_done (ts : List Th) (low high : Int) : ∀ (n : Nat) (cs : List Nat), cs.Nodup → (∀ i ∈ cs, i < ts.length) → ts.length + 1 ≤ n + cs.length → farL (leastN ts low high n cs) ts low high = []
  | 0, cs, nd, hl, hn => by
    have := few_nat nd hl
    omega
  | n + 1, cs, nd, hl, hn => by
    have e0 : leastN ts low high (n + 1) cs = match farL cs ts low high with | [] => cs | f :: fs => leastN ts low high n (cs ++ f :: fs) := rfl
    cases e : farL cs ts low high with
    | nil => rw [e0, e]; exact e
    | cons f fs =>
      rw [e0, e]
      refine least_done ts low high n _ ?_ ?_ ?_
      · rw [← e]
        exact List.nodup_append.mpr ⟨nd, farL_nodup .., fun a ma b mb q => (farL_mem mb).2 (q ▸ ma)⟩
      · rw [← e]
        exact fun i mi => (List.mem_append.mp mi).elim (hl i) fun h => (farL_mem h).1
      · simp only [List.length_append, List.length_cons]; omega
theorem least_far (rs : List Ro) : farL (csOf rs) (thsOf rs) (-8) 7 = [] := least_done _ _ _ _ _ List.nodup_nil (fun _ m => nomatch m) (Nat.le_refl _)
theorem ths_at (rs : List Ro) {k : Nat} (h : k < rs.length) : (thsOf rs).getD k (.len 0) = (rs.getD k (.plain true)).th := by
  unfold thsOf
  rw [List.getD_eq_getElem?_getD, List.getD_eq_getElem?_getD, List.getElem?_map, List.getElem?_eq_getElem h]
  rfl
theorem ths_len (rs : List Ro) : (thsOf rs).length = rs.length := List.length_map _
/-- a short jump reaches -/
theorem short_fits {rs : List Ro} {k t : Nat} (h : k < rs.length) (e : (rs.getD k (.plain true)).th = .jmp t) (m : k ∉ csOf rs) : -8 ≤ adr rs t - adr rs k ∧ adr rs t - adr rs k ≤ 7 := by
  have hf : isFar (csOf rs) (thsOf rs) (-8) 7 k = false := by
    cases q : isFar (csOf rs) (thsOf rs) (-8) 7 k with
    | false => rfl
    | true =>
      have : k ∈ farL (csOf rs) (thsOf rs) (-8) 7 := List.mem_filter.mpr ⟨List.mem_range.mpr (by rw [ths_len]; exact h), q⟩
      rw [least_far] at this
      cases this
  unfold isFar at hf
  rw [ths_at rs h, e] at hf
  have hf2 : (decide (k ∉ csOf rs) && !(decide (-8 ≤ adr rs t - adr rs k) && decide (adr rs t - adr rs k ≤ 7))) = false := hf
  rw [decide_eq_true m, Bool.true_and] at hf2
  have := Bool.not_eq_false' .. ▸ hf2
  obtain ⟨a, b⟩ := Bool.and_eq_true_iff.mp (by simpa using hf2 : (decide (-8 ≤ adr rs t - adr rs k) && decide (adr rs t - adr rs k ≤ 7)) = true)
  exact ⟨of_decide_eq_true a, of_decide_eq_true b⟩
theorem adr_succ {rs : List Ro} {k : Nat} (h : k < rs.length) : adr rs (k + 1) = adr rs k + lenT (csOf rs) k (rs.getD k (.plain true)).th := by
  show addrAt (csOf rs) (thsOf rs) k + lenT (csOf rs) k ((thsOf rs).getD k (.len 0)) = _
  rw [ths_at rs h]
  rfl
theorem words_len (cs : List Nat) (k : Nat) (r : Ro) (a t : Int) : ((r.words a (decide (k ∈ cs)) t).length : Int) = lenT cs k r.th := by
  by_cases m : k ∈ cs
  · cases r <;> simp [Ro.words, Ro.th, lenT, m]
  · cases r <;> simp [Ro.words, Ro.th, lenT, m]
theorem words_lg {r : Ro} (h : r.isJ = false) (a t : Int) (x y : Bool) : r.words a x t = r.words a y t := by
  cases r <;> first | rfl | cases h
theorem words_to {r : Ro} (h : r.isT = false) (a t u : Int) (x : Bool) : r.words a x t = r.words a x u := by
  cases r <;> first | rfl | cases h
theorem entsTo_succ (b : Int) (ss : List (Str × Int)) (rs : List Ro) (n : Nat) : entsTo b ss rs (n + 1) = entsTo b ss rs n ++ [entAt b ss rs n] := by
  unfold entsTo
  rw [List.range_succ, List.map_append]
  rfl
theorem entsTo_len (b : Int) (ss : List (Str × Int)) (rs : List Ro) (n : Nat) : (entsTo b ss rs n).length = n := by unfold entsTo; rw [List.length_map, List.length_range]
theorem allTo_succ (fs : List (Str × List Ro)) (n : Nat) : allTo fs (n + 1) = allTo fs n ++ fnEnts fs n := by
  unfold allTo
  rw [List.range_succ, List.flatMap_append]
  simp
theorem startsTo_succ (fs : List (Str × List Ro)) (n : Nat) : startsTo fs (n + 1) = startsTo fs n ++ [((Fns.at fs n).1, baseAt fs n)] := by
  unfold startsTo
  rw [List.range_succ, List.map_append]
  rfl
theorem placesTo_succ (fs : List (Str × List Ro)) (j n : Nat) : placesTo fs j (n + 1) = placesTo fs j n ++ ((Fns.at fs j).2.getD n (.plain true)).place (Fns.at fs j).1 (baseAt fs j + adr (Fns.at fs j).2 n) := by
  unfold placesTo
  rw [entsTo_succ, List.flatMap_append]
  congr 1
  show [_].flatMap _ = _
  rw [List.flatMap_cons, List.flatMap_nil, List.append_nil]
  rfl
theorem placesAll_succ (fs : List (Str × List Ro)) (n : Nat) : placesAll fs (n + 1) = placesAll fs n ++ placesTo fs n (Fns.at fs n).2.length := by
  unfold placesAll
  rw [List.range_succ, List.flatMap_append]
  simp
theorem wordsE_app (es fs : List Ent) : wordsE (es ++ fs) = wordsE es ++ wordsE fs := by unfold wordsE; rw [List.flatMap_append]
theorem wordsE_one (e : Ent) : wordsE [e] = e.ws := by unfold wordsE; simp
theorem words_entsTo (b : Int) (ss : List (Str × Int)) (rs : List Ro) : ∀ n, n ≤ rs.length → ((wordsE (entsTo b ss rs n)).length : Int) = adr rs n
  | 0, _ => rfl
  | n + 1, h => by
    rw [entsTo_succ, wordsE_app, wordsE_one, List.length_append, Int.natCast_add, words_entsTo b ss rs n (by omega), adr_succ (by omega)]
    congr 1
    exact words_len (csOf rs) n (rs.getD n (.plain true)) _ _
theorem words_allTo (fs : List (Str × List Ro)) : ∀ n, n ≤ fs.length → ((wordsE (allTo fs n)).length : Int) = baseAt fs n
  | 0, _ => rfl
  | n + 1, h => by
    rw [allTo_succ, wordsE_app, List.length_append, Int.natCast_add, words_allTo fs n (by omega)]
    show _ + _ = baseAt fs n + total (Fns.at fs n).2
    congr 1
    exact words_entsTo _ _ _ _ (Nat.le_refl _)
/-- each entry stands where the words ahead end -/
def Chain (es : List Ent) : Prop := ∀ i e, es[i]? = some e → e.a = ((wordsE (es.take i)).length : Int)
theorem chain_all (fs : List (Str × List Ro)) : ∀ n, n ≤ fs.length → Chain (allTo fs n)
  | 0, _ => fun i e h => by
    have : (allTo fs 0) = [] := rfl
    rw [this] at h; cases h
  | n + 1, h => fun i e hi => by
    rw [allTo_succ] at hi ⊢
    by_cases c : i < (allTo fs n).length
    · rw [List.getElem?_append_left c] at hi
      rw [List.take_append_of_le_length (by omega)]
      exact chain_all fs n (by omega) i e hi
    · rw [List.getElem?_append_right (by omega)] at hi
      have hk : i - (allTo fs n).length < (Fns.at fs n).2.length := by
        have := (List.getElem?_eq_some_iff.mp hi).1
        unfold fnEnts at this
        rwa [entsTo_len] at this
      generalize hkk : i - (allTo fs n).length = k at hi hk
      have ei : i = (allTo fs n).length + k := by omega
      subst ei
      rw [List.take_append, List.take_of_length_le (by omega), wordsE_app, List.length_append, Int.natCast_add, words_allTo fs n (by omega)]
      have tk : (fnEnts fs n).take ((allTo fs n).length + k - (allTo fs n).length) = entsTo (baseAt fs n) (startsOf fs) (Fns.at fs n).2 k := by
        unfold fnEnts entsTo
        rw [← List.map_take, List.take_range, Nat.min_eq_left (by omega), show (allTo fs n).length + k - (allTo fs n).length = k by omega]
      rw [tk, words_entsTo _ _ _ _ (by omega)]
      have : e = entAt (baseAt fs n) (startsOf fs) (Fns.at fs n).2 k := by
        unfold fnEnts entsTo at hi
        rw [List.getElem?_map, List.getElem?_range hk] at hi
        exact (Option.some.inj hi).symm
      rw [this]
      rfl
/-- an entry's word can be read back -/
def Ent.ok (e : Ent) : Prop := match e.r with
  | .plain _ => True
  | .cell _ c => reg c
  | .num b _ => reg b
  | .two _ b c => reg b ∧ reg c
  | .op _ b c d _ => reg b ∧ reg c ∧ reg d
  | .call _ _ => True
  | .jump _ => e.lg = false → reg (e.t - e.a + 8)
  | .nought b _ => reg b ∧ (e.lg = false → reg (e.t - e.a + 8))
theorem entAt_ok {b : Int} {ss : List (Str × Int)} {rs : List Ro} {k : Nat} {ts : List Str} (h : k < rs.length) (hf : (rs.getD k (.plain true)).fit rs.length ts) : (entAt b ss rs k).ok := by
  unfold Ent.ok entAt
  have sh := fun t e => short_fits (rs := rs) (k := k) (t := t) h e
  generalize rs.getD k (.plain true) = r at *
  cases r with
  | plain q => trivial
  | cell q c => exact hf
  | num b n => exact hf.1
  | two q b c => exact hf
  | op q b c d pl => exact ⟨hf.1, hf.2.1, hf.2.2.1⟩
  | call t pl => trivial
  | jump t =>
    intro hl
    have := sh t rfl (of_decide_eq_false hl)
    show reg ((b + adr rs t) - (b + adr rs k) + 8)
    unfold reg
    omega
  | nought c t =>
    refine ⟨hf.1, fun hl => ?_⟩
    have := sh t rfl (of_decide_eq_false hl)
    show reg ((b + adr rs t) - (b + adr rs k) + 8)
    unfold reg
    omega
theorem getD_mem' {rs : List Ro} {k : Nat} (h : k < rs.length) : rs.getD k (.plain true) ∈ rs := by
  rw [List.getD_eq_getElem?_getD, List.getElem?_eq_getElem h]
  exact List.getElem_mem h
theorem all_ok {fs : List (Str × List Ro)} (W : WF fs) : ∀ e ∈ allE fs, e.ok := by
  intro e he
  obtain ⟨j, hj, hm⟩ := List.mem_flatMap.mp he
  obtain ⟨k, hk, rfl⟩ := List.mem_map.mp hm
  have hj' := List.mem_range.mp hj
  have hk' := List.mem_range.mp hk
  exact entAt_ok (ts := fs.map (·.1)) hk' (W.fit _ (Fns.at_mem hj') _ (getD_mem' hk'))
end Lk

set_option Elab.async false
set_option linter.all false
set_option maxRecDepth 100000
set_option maxHeartbeats 4000000
namespace Lk
open PySem PySem.Spec PyProof.Rows L2
def Ent.v (e : Ent) : Int := match e.r with
  | .plain _ => 0
  | .cell _ _ => 0
  | .num _ _ => 1
  | .two k _ _ => if k then 2 else 3
  | .op k _ _ _ _ => (k.val : Int) + 4
  | .call _ _ => 15
  | .jump _ => if e.lg then 12 else 11
  | .nought _ _ => if e.lg then 14 else 13
def Ent.b (e : Ent) : Int := match e.r with
  | .plain k => if k then 0 else 1
  | .cell k _ => (k.val : Int) + 2
  | .num b _ => b
  | .two _ b _ => b
  | .op _ b _ _ _ => b
  | .call _ _ => 0
  | .jump _ => 0
  | .nought b _ => b
def Ent.c (e : Ent) : Int := match e.r with
  | .cell _ c => c
  | .two _ _ c => c
  | .op _ _ c _ _ => c
  | _ => 0
def Ent.d (e : Ent) : Int := match e.r with
  | .op _ _ _ d _ => d
  | .jump _ => if e.lg then 0 else e.t - e.a + 8
  | .nought _ _ => if e.lg then 0 else e.t - e.a + 8
  | _ => 0
def Ent.snd (e : Ent) : Option Int := match e.r with
  | .num _ n => some n
  | .call _ _ => some e.t
  | .jump _ => if e.lg then some e.t else none
  | .nought _ _ => if e.lg then some e.t else none
  | _ => none
def Ent.w0 (e : Ent) : Int := e.v * 4096 + e.b * 256 + e.c * 16 + e.d
theorem ws_eq (e : Ent) : e.ws = e.w0 :: e.snd.toList := by
  obtain ⟨a, r, lg, t⟩ := e
  unfold Ent.ws Ent.w0
  cases r with
  | plain k => cases k <;> simp [Ro.words, Ent.v, Ent.b, Ent.c, Ent.d, Ent.snd]
  | cell k c => simp [Ro.words, Ent.v, Ent.b, Ent.c, Ent.d, Ent.snd]
  | num b n => simp [Ro.words, Ent.v, Ent.b, Ent.c, Ent.d, Ent.snd]
  | two k b c => cases k <;> simp [Ro.words, Ent.v, Ent.b, Ent.c, Ent.d, Ent.snd]
  | op k b c d pl => simp [Ro.words, Ent.v, Ent.b, Ent.c, Ent.d, Ent.snd]
  | call u pl => simp [Ro.words, Ent.v, Ent.b, Ent.c, Ent.d, Ent.snd]
  | jump u => cases lg <;> simp [Ro.words, Ent.v, Ent.b, Ent.c, Ent.d, Ent.snd]
  | nought b u => cases lg <;> simp [Ro.words, Ent.v, Ent.b, Ent.c, Ent.d, Ent.snd] <;> omega
theorem reg_of {e : Ent} (h : e.ok) : 0 ≤ e.v ∧ reg e.b ∧ reg e.c ∧ reg e.d := by
  obtain ⟨a, r, lg, t⟩ := e
  cases r with
  | plain k => cases k <;> simp [Ent.v, Ent.b, Ent.c, Ent.d, reg]
  | cell k c => 
    have := k.isLt
    have h' : reg c := h
    unfold reg at *
    simp [Ent.v, Ent.b, Ent.c, Ent.d]
    omega
  | num b n => have h' : reg b := h; unfold reg at *; simp [Ent.v, Ent.b, Ent.c, Ent.d]; omega
  | two k b c => have h' : reg b ∧ reg c := h; unfold reg at *; cases k <;> simp [Ent.v, Ent.b, Ent.c, Ent.d] <;> omega
  | op k b c d pl => have h' : reg b ∧ reg c ∧ reg d := h; unfold reg at *; simp [Ent.v, Ent.b, Ent.c, Ent.d]; omega
  | call u pl => simp [Ent.v, Ent.b, Ent.c, Ent.d, reg]
  | jump u => 
    have h' : lg = false → reg (t - a + 8) := h
    cases lg
    · have := h' rfl; unfold reg at *; simp [Ent.v, Ent.b, Ent.c, Ent.d]; omega
    · simp [Ent.v, Ent.b, Ent.c, Ent.d, reg]
  | nought b u =>
    have h' : reg b ∧ (lg = false → reg (t - a + 8)) := h
    cases lg
    · have := h'.2 rfl; have := h'.1; unfold reg at *; simp [Ent.v, Ent.b, Ent.c, Ent.d]; omega
    · have := h'.1; unfold reg at *; simp [Ent.v, Ent.b, Ent.c, Ent.d]; omega
theorem parts_eq {e : Ent} (h : e.ok) : e.w0.fdiv 4096 = e.v ∧ e.w0.fdiv 256 % 16 = e.b ∧ e.w0.fdiv 16 % 16 = e.c ∧ e.w0 % 16 = e.d := by
  obtain ⟨h0, ⟨h1, h2⟩, ⟨h3, h4⟩, ⟨h5, h6⟩⟩ := reg_of h
  rw [Int.fdiv_eq_ediv_of_nonneg _ (by decide), Int.fdiv_eq_ediv_of_nonneg _ (by decide), Int.fdiv_eq_ediv_of_nonneg _ (by decide)]
  unfold Ent.w0
  generalize e.v = v at *
  generalize e.b = b at *
  generalize e.c = c at *
  generalize e.d = d at *
  omega
theorem int_dec (a b : Int) : decide (V.int a = V.int b) = decide (a = b) := by
  by_cases h : a = b
  · subst h; simp
  · have h2 : ¬ V.int a = V.int b := fun z => h (V.int.inj z)
    rw [decide_eq_false h2, decide_eq_false h]
theorem cellV_at : ∀ q : Fin 3, atI pvs ((q.val : Int) + 2) = some (V.str (cellV q)) ∧ (cellV q == "beat" || cellV q == "back") = false := by decide +kernel
theorem opV_at : ∀ q : Fin 7, atI (opL.map V.str) ((q.val : Int) + 4 - 3 - 1) = some (V.str (opV q)) := by decide +kernel
theorem plain_in : (("beat" : Str) == "beat" || ("beat" : Str) == "back") = true ∧ (("back" : Str) == "beat" || ("back" : Str) == "back") = true := by decide +kernel
def sndV (e : Ent) : V := match e.snd with
  | some n => .int n
  | none => .non
def spRowOf (K : PySem.W.Frag) : Sp := fun vs H Q _ => ∃ (e : Ent), vs = [.int e.w0, .int e.a, sndV e] ∧ e.ok ∧ ∀ z H', Same H H' → Dp K H' z (e.r.back e.t) → Q z H'
section
variable {P : Program} {w : World} {K : PySem.W.Frag} {mg : Str → Option Value} {base : Heap}
theorem ok_row_of (T : Txt K mg) : FnOk P w K mg base CX0 2 T.f__row_of T.d__row_of ["word", "address", "behind"] (spRowOf K) := by
  have nd := sc__row_of.nd
  refine T.F__row_of.ok sc__row_of (fun vs H Q E h => ?_) (fun cdv A outer s H vs Q E hr h => ?_)
  · obtain ⟨e, rfl, _⟩ := h
    rfl
  obtain ⟨e, rfl, hk, k⟩ := h
  have G_parts_of : FnOk P w K mg base CX0 1 _ _ _ (spParts K) := ok_parts T
  have hr_parts_of := hr
  refine ⟨_, (pss_cons (ps_asg (pe_call G_parts_of hr_parts_of rfl T.m_parts_of T.k_parts_of T.b_parts_of .nil pass0 (pa_cons (pv 0) pa_nil)) (pg_tup rfl (pgs_cons (pg_name (i := 3) nd rfl (Or.inl rfl)) (pgs_cons (pg_name (i := 4) nd rfl (Or.inl rfl)) (pgs_cons (pg_name (i := 5) nd rfl (Or.inl rfl)) (pgs_cons (pg_name (i := 6) nd rfl (Or.inl rfl)) pgs_nil))))))
      (pss_cons (ps_if (pt_cmpR op_eq (pv 3) (pe_glob (v := .int (0)) rfl T.c_PLAIN ⟨_, rfl⟩) (nomark _)) (pss_cons (ps_if (pt_cmpR op_in_seq (pe_ix ix_tup (pe_glob (v := .ref T.a_PLAIN_VERBS) rfl T.c_PLAIN_VERBS rfl) (pv 4) (fun _ _ => rfl)) (pe_tup (pa_cons pe_str (pa_cons pe_str pa_nil))) (by rfl)) (pss_one (ps_ret (pe_tup (pa_cons (pe_ix ix_tup (pe_glob (v := .ref T.a_PLAIN_VERBS) rfl T.c_PLAIN_VERBS rfl) (pv 4) (fun _ _ => rfl)) pa_nil)))) pss_nil)
      (pss_one (ps_ret (pe_tup (pa_cons (pe_ix ix_tup (pe_glob (v := .ref T.a_PLAIN_VERBS) rfl T.c_PLAIN_VERBS rfl) (pv 4) (fun _ _ => rfl)) (pa_cons (pv 5) pa_nil)))))) pss_nil)
      (pss_cons (ps_if (pt_cmpR op_eq (pv 3) (pe_glob (v := .int (1)) rfl T.c_NUMBER ⟨_, rfl⟩) (nomark _)) (pss_one (ps_ret (pe_tup (pa_cons pe_str (pa_cons (pv 4) (pa_cons (pv 2) pa_nil)))))) pss_nil)
      (pss_cons (ps_if (pt_cmpR op_eq (pv 3) (pe_glob (v := .int (2)) rfl T.c_MOVE ⟨_, rfl⟩) (nomark _)) (pss_one (ps_ret (pe_tup (pa_cons pe_str (pa_cons (pv 4) (pa_cons (pv 5) pa_nil)))))) pss_nil)
      (pss_cons (ps_if (pt_cmpR op_eq (pv 3) (pe_glob (v := .int (3)) rfl T.c_SWAP ⟨_, rfl⟩) (nomark _)) (pss_one (ps_ret (pe_tup (pa_cons pe_str (pa_cons (pv 4) (pa_cons (pv 5) pa_nil)))))) pss_nil)
      (pss_cons (ps_if (pt_cmpR op_lt (pv 3) (pe_glob (v := .int (11)) rfl T.c_SHORT_JUMP ⟨_, rfl⟩) (nomark _)) (pss_one (ps_ret (pe_tup (pa_cons (pe_ix ix_tup (pe_glob (v := .ref T.a_OPERATIONS) rfl T.c_OPERATIONS rfl) (pe_op op_sub (pe_op op_sub (pv 3) (pe_glob (v := .int (3)) rfl T.c_SWAP ⟨_, rfl⟩)) pe_int) (fun _ _ => rfl)) (pa_cons (pv 4) (pa_cons (pv 5) (pa_cons (pv 6) pa_nil))))))) pss_nil)
      (pss_cons (ps_if (pt_cmpR op_eq (pv 3) (pe_glob (v := .int (15)) rfl T.c_CALL ⟨_, rfl⟩) (nomark _)) (pss_one (ps_ret (pe_tup (pa_cons pe_str (pa_cons (pv 2) pa_nil))))) pss_nil)
      (pss_cons (ps_set (i := 7) nd rfl (Or.inl rfl) (pv 2))
      (pss_cons (ps_if (pt_cmpR op_in_seq (pv 3) (pe_tup (pa_cons (pe_glob (v := .int (11)) rfl T.c_SHORT_JUMP ⟨_, rfl⟩) (pa_cons (pe_glob (v := .int (13)) rfl T.c_SHORT_NOUGHT ⟨_, rfl⟩) pa_nil))) (by rfl)) (pss_one (ps_set (i := 7) nd rfl (Or.inl rfl) (pe_op op_sub (pe_op op_add (pv 1) (pv 6)) (pe_glob (v := .int (8)) rfl T.c_SHORT_OFFSET ⟨_, rfl⟩)))) pss_nil)
      (pss_cons (ps_if (pt_cmpR op_in_seq (pv 3) (pe_tup (pa_cons (pe_glob (v := .int (11)) rfl T.c_SHORT_JUMP ⟨_, rfl⟩) (pa_cons (pe_glob (v := .int (12)) rfl T.c_LONG_JUMP ⟨_, rfl⟩) pa_nil))) (by rfl)) (pss_one (ps_ret (pe_tup (pa_cons pe_str (pa_cons (pv 7) pa_nil))))) pss_nil)
      (pss_one (ps_ret (pe_tup (pa_cons pe_str (pa_cons (pv 4) (pa_cons (pv 7) pa_nil)))))))))))))))), ?_⟩
  refine ⟨_, rfl, _, rfl, fun a H1 e1 ha => ?_⟩
  obtain ⟨p1, p2, p3, p4⟩ := parts_eq hk
  rw [p1, p2, p3, p4] at ha
  refine ⟨a, _, rfl, ha, rfl, _, _, rfl, _, _, rfl, _, _, rfl, _, _, rfl, rfl, ?_⟩
  obtain ⟨ea, r, lg, t⟩ := e
  cases r with
  | plain q =>
    cases q with
    | true =>
      refine ⟨_, rfl, rfl, _, rfl, ?_⟩
      rw [show decide (V.int (Ent.v ⟨ea, .plain true, lg, t⟩) = V.int 0) = true from decide_eq_true rfl]
      refine iteT ?_
      refine ⟨_, rfl, T.a_PLAIN_VERBS, _, _, _, rfl, rfl, T.s_PLAIN_VERBS H1, (by rfl : _ = some (V.str "beat")), (by show 2 ≤ sizeLine; decide), fun t1 ht1 => ?_⟩
      have e2 := e1.trans (same_new ht1 (.tup [.str "beat", .str "back"]))
      refine ⟨t1, [.str "beat", .str "back"], rfl, .inr (SqT.of upd_same), rfl, rfl, _, rfl, ?_⟩
      rw [in_two, plain_in.1]
      refine iteT ?_
      refine ⟨_, rfl, T.a_PLAIN_VERBS, _, _, _, rfl, rfl, T.s_PLAIN_VERBS _, (by rfl : _ = some (V.str "beat")), (by show 1 ≤ sizeLine; decide), fun t2 ht2 => ?_⟩
      exact k (.ref t2) _ (e2.trans (same_new ht2 _)) (.tup (SqT.of upd_same) (.cons (.str _) .nil))
    | false =>
      refine ⟨_, rfl, rfl, _, rfl, ?_⟩
      rw [show decide (V.int (Ent.v ⟨ea, .plain false, lg, t⟩) = V.int 0) = true from decide_eq_true rfl]
      refine iteT ?_
      refine ⟨_, rfl, T.a_PLAIN_VERBS, _, _, _, rfl, rfl, T.s_PLAIN_VERBS H1, (by rfl : _ = some (V.str "back")), (by show 2 ≤ sizeLine; decide), fun t1 ht1 => ?_⟩
      have e2 := e1.trans (same_new ht1 (.tup [.str "beat", .str "back"]))
      refine ⟨t1, [.str "beat", .str "back"], rfl, .inr (SqT.of upd_same), rfl, rfl, _, rfl, ?_⟩
      rw [in_two, plain_in.2]
      refine iteT ?_
      refine ⟨_, rfl, T.a_PLAIN_VERBS, _, _, _, rfl, rfl, T.s_PLAIN_VERBS _, (by rfl : _ = some (V.str "back")), (by show 1 ≤ sizeLine; decide), fun t2 ht2 => ?_⟩
      exact k (.ref t2) _ (e2.trans (same_new ht2 _)) (.tup (SqT.of upd_same) (.cons (.str _) .nil))
  | cell q c =>
    refine ⟨_, rfl, rfl, _, rfl, ?_⟩
    rw [show decide (V.int (Ent.v ⟨ea, .cell q c, lg, t⟩) = V.int 0) = true from decide_eq_true rfl]
    refine iteT ?_
    refine ⟨_, rfl, T.a_PLAIN_VERBS, _, _, _, rfl, rfl, T.s_PLAIN_VERBS H1, (cellV_at q).1, (by show 2 ≤ sizeLine; decide), fun t1 ht1 => ?_⟩
    have e2 := e1.trans (same_new ht1 (.tup [.str "beat", .str "back"]))
    refine ⟨t1, [.str "beat", .str "back"], rfl, .inr (SqT.of upd_same), rfl, rfl, _, rfl, ?_⟩
    rw [in_two, (cellV_at q).2]
    refine iteF ?_
    refine ⟨_, rfl, T.a_PLAIN_VERBS, _, _, _, rfl, rfl, T.s_PLAIN_VERBS _, (cellV_at q).1, _, rfl, (by show 2 ≤ sizeLine; decide), fun t2 ht2 => ?_⟩
    exact k (.ref t2) _ (e2.trans (same_new ht2 _)) (.tup (SqT.of upd_same) (.cons (.str _) (.cons (.int _) .nil)))
  | num b n =>
    refine ⟨_, rfl, rfl, _, rfl, ?_⟩
    rw [int_dec]
    refine iteF ?_
    refine ⟨_, rfl, rfl, _, rfl, ?_⟩
    rw [int_dec]
    refine iteT ?_
    refine ⟨_, rfl, _, rfl, (by show 3 ≤ sizeLine; decide), fun t2 ht2 => ?_⟩
    exact k (.ref t2) _ (e1.trans (same_new ht2 _)) (.tup (SqT.of upd_same) (.cons (.str _) (.cons (.int _) (.cons (.int _) .nil))))
  | two q b c =>
    cases q with
    | true =>
      refine ⟨_, rfl, rfl, _, rfl, ?_⟩
      rw [int_dec]
      refine iteF ?_
      refine ⟨_, rfl, rfl, _, rfl, ?_⟩
      rw [int_dec]
      refine iteF ?_
      refine ⟨_, rfl, rfl, _, rfl, ?_⟩
      rw [int_dec]
      refine iteT ?_
      refine ⟨_, rfl, _, rfl, (by show 3 ≤ sizeLine; decide), fun t2 ht2 => ?_⟩
      exact k (.ref t2) _ (e1.trans (same_new ht2 _)) (.tup (SqT.of upd_same) (.cons (.str _) (.cons (.int _) (.cons (.int _) .nil))))
    | false =>
      refine ⟨_, rfl, rfl, _, rfl, ?_⟩
      rw [int_dec]
      refine iteF ?_
      refine ⟨_, rfl, rfl, _, rfl, ?_⟩
      rw [int_dec]
      refine iteF ?_
      refine ⟨_, rfl, rfl, _, rfl, ?_⟩
      rw [int_dec]
      refine iteF ?_
      refine ⟨_, rfl, rfl, _, rfl, ?_⟩
      rw [int_dec]
      refine iteT ?_
      refine ⟨_, rfl, _, rfl, (by show 3 ≤ sizeLine; decide), fun t2 ht2 => ?_⟩
      exact k (.ref t2) _ (e1.trans (same_new ht2 _)) (.tup (SqT.of upd_same) (.cons (.str _) (.cons (.int _) (.cons (.int _) .nil))))
  | op q b c d pl =>
    have hq := q.isLt
    refine ⟨_, rfl, rfl, _, rfl, ?_⟩
    rw [int_dec]
    refine ifF (decide_eq_false (show ¬ ((q.val : Int) + 4 = 0) by omega)) ?_
    refine ⟨_, rfl, rfl, _, rfl, ?_⟩
    rw [int_dec]
    refine ifF (decide_eq_false (show ¬ ((q.val : Int) + 4 = 1) by omega)) ?_
    refine ⟨_, rfl, rfl, _, rfl, ?_⟩
    rw [int_dec]
    refine ifF (decide_eq_false (show ¬ ((q.val : Int) + 4 = 2) by omega)) ?_
    refine ⟨_, rfl, rfl, _, rfl, ?_⟩
    rw [int_dec]
    refine ifF (decide_eq_false (show ¬ ((q.val : Int) + 4 = 3) by omega)) ?_
    refine ⟨_, rfl, _, _, rfl, rfl, _, rfl, ?_⟩
    refine ifT (decide_eq_true (show (q.val : Int) + 4 < 11 by omega)) ?_
    refine ⟨_, rfl, _, _, rfl, rfl, _, _, rfl, rfl, T.a_OPERATIONS, _, _, _, rfl, rfl, T.s_OPERATIONS H1, opV_at q, _, rfl, _, rfl, _, rfl, (by show 4 ≤ sizeLine; decide), fun t2 ht2 => ?_⟩
    exact k (.ref t2) _ (e1.trans (same_new ht2 _)) (.tup (SqT.of upd_same) (.cons (.str _) (.cons (.int _) (.cons (.int _) (.cons (.int _) .nil)))))
  | call u pl =>
    refine ⟨_, rfl, rfl, _, rfl, ?_⟩
    rw [int_dec]
    refine iteF ?_
    refine ⟨_, rfl, rfl, _, rfl, ?_⟩
    rw [int_dec]
    refine iteF ?_
    refine ⟨_, rfl, rfl, _, rfl, ?_⟩
    rw [int_dec]
    refine iteF ?_
    refine ⟨_, rfl, rfl, _, rfl, ?_⟩
    rw [int_dec]
    refine iteF ?_
    refine ⟨_, rfl, _, _, rfl, rfl, _, rfl, ?_⟩
    refine iteF ?_
    refine ⟨_, rfl, rfl, _, rfl, ?_⟩
    rw [int_dec]
    refine iteT ?_
    refine ⟨_, rfl, (by show 2 ≤ sizeLine; decide), fun t2 ht2 => ?_⟩
    exact k (.ref t2) _ (e1.trans (same_new ht2 _)) (.tup (SqT.of upd_same) (.cons (.str _) (.cons (.int _) .nil)))
  | jump u =>
    cases lg with
    | true =>
      refine ⟨_, rfl, rfl, _, rfl, ?_⟩
      rw [int_dec]
      refine iteF ?_
      refine ⟨_, rfl, rfl, _, rfl, ?_⟩
      rw [int_dec]
      refine iteF ?_
      refine ⟨_, rfl, rfl, _, rfl, ?_⟩
      rw [int_dec]
      refine iteF ?_
      refine ⟨_, rfl, rfl, _, rfl, ?_⟩
      rw [int_dec]
      refine iteF ?_
      refine ⟨_, rfl, _, _, rfl, rfl, _, rfl, ?_⟩
      refine iteF ?_
      refine ⟨_, rfl, rfl, _, rfl, ?_⟩
      rw [int_dec]
      refine iteF ?_
      refine ⟨_, rfl, ?_⟩
      refine ⟨_, rfl, (by show 2 ≤ sizeLine; decide), fun t1 ht1 => ?_⟩
      have e2 := e1.trans (same_new ht1 (.tup [.int 11, .int 13]))
      refine ⟨t1, [.int 11, .int 13], rfl, .inr (SqT.of upd_same), rfl, rfl, _, rfl, ?_⟩
      refine iteF ?_
      refine ⟨_, rfl, (by show 2 ≤ sizeLine; decide), fun t3 ht3 => ?_⟩
      have e3 := e2.trans (same_new ht3 (.tup [.int 11, .int 12]))
      refine ⟨t3, [.int 11, .int 12], rfl, .inr (SqT.of upd_same), rfl, rfl, _, rfl, ?_⟩
      refine iteT ?_
      refine ⟨_, rfl, (by show 2 ≤ sizeLine; decide), fun t2 ht2 => ?_⟩
      exact k (.ref t2) _ (e3.trans (same_new ht2 _)) (.tup (SqT.of upd_same) (.cons (.str _) (.cons (.int _) .nil)))
    | false =>
      refine ⟨_, rfl, rfl, _, rfl, ?_⟩
      rw [int_dec]
      refine iteF ?_
      refine ⟨_, rfl, rfl, _, rfl, ?_⟩
      rw [int_dec]
      refine iteF ?_
      refine ⟨_, rfl, rfl, _, rfl, ?_⟩
      rw [int_dec]
      refine iteF ?_
      refine ⟨_, rfl, rfl, _, rfl, ?_⟩
      rw [int_dec]
      refine iteF ?_
      refine ⟨_, rfl, _, _, rfl, rfl, _, rfl, ?_⟩
      refine iteF ?_
      refine ⟨_, rfl, rfl, _, rfl, ?_⟩
      rw [int_dec]
      refine iteF ?_
      refine ⟨_, rfl, ?_⟩
      refine ⟨_, rfl, (by show 2 ≤ sizeLine; decide), fun t1 ht1 => ?_⟩
      have e2 := e1.trans (same_new ht1 (.tup [.int 11, .int 13]))
      refine ⟨t1, [.int 11, .int 13], rfl, .inr (SqT.of upd_same), rfl, rfl, _, rfl, ?_⟩
      refine iteT ?_
      refine ⟨_, rfl, _, rfl, _, _, rfl, rfl, _, _, rfl, rfl, ?_⟩
      refine ⟨_, rfl, (by show 2 ≤ sizeLine; decide), fun t3 ht3 => ?_⟩
      have e3 := e2.trans (same_new ht3 (.tup [.int 11, .int 12]))
      refine ⟨t3, [.int 11, .int 12], rfl, .inr (SqT.of upd_same), rfl, rfl, _, rfl, ?_⟩
      refine iteT ?_
      refine ⟨_, rfl, (by show 2 ≤ sizeLine; decide), fun t2 ht2 => ?_⟩
      refine k (.ref t2) _ (e3.trans (same_new ht2 _)) (.tup (SqT.of upd_same) (.cons (.str _) (.cons ?_ .nil)))
      show Dp K _ (V.int (ea + (t - ea + 8) - 8)) (.int t)
      rw [show ea + (t - ea + 8) - 8 = t by omega]
      exact .int _
  | nought b u =>
    cases lg with
    | true =>
      refine ⟨_, rfl, rfl, _, rfl, ?_⟩
      rw [int_dec]
      refine iteF ?_
      refine ⟨_, rfl, rfl, _, rfl, ?_⟩
      rw [int_dec]
      refine iteF ?_
      refine ⟨_, rfl, rfl, _, rfl, ?_⟩
      rw [int_dec]
      refine iteF ?_
      refine ⟨_, rfl, rfl, _, rfl, ?_⟩
      rw [int_dec]
      refine iteF ?_
      refine ⟨_, rfl, _, _, rfl, rfl, _, rfl, ?_⟩
      refine iteF ?_
      refine ⟨_, rfl, rfl, _, rfl, ?_⟩
      rw [int_dec]
      refine iteF ?_
      refine ⟨_, rfl, ?_⟩
      refine ⟨_, rfl, (by show 2 ≤ sizeLine; decide), fun t1 ht1 => ?_⟩
      have e2 := e1.trans (same_new ht1 (.tup [.int 11, .int 13]))
      refine ⟨t1, [.int 11, .int 13], rfl, .inr (SqT.of upd_same), rfl, rfl, _, rfl, ?_⟩
      refine iteF ?_
      refine ⟨_, rfl, (by show 2 ≤ sizeLine; decide), fun t3 ht3 => ?_⟩
      have e3 := e2.trans (same_new ht3 (.tup [.int 11, .int 12]))
      refine ⟨t3, [.int 11, .int 12], rfl, .inr (SqT.of upd_same), rfl, rfl, _, rfl, ?_⟩
      refine iteF ?_
      refine ⟨_, rfl, _, rfl, (by show 3 ≤ sizeLine; decide), fun t2 ht2 => ?_⟩
      exact k (.ref t2) _ (e3.trans (same_new ht2 _)) (.tup (SqT.of upd_same) (.cons (.str _) (.cons (.int _) (.cons (.int _) .nil))))
    | false =>
      refine ⟨_, rfl, rfl, _, rfl, ?_⟩
      rw [int_dec]
      refine iteF ?_
      refine ⟨_, rfl, rfl, _, rfl, ?_⟩
      rw [int_dec]
      refine iteF ?_
      refine ⟨_, rfl, rfl, _, rfl, ?_⟩
      rw [int_dec]
      refine iteF ?_
      refine ⟨_, rfl, rfl, _, rfl, ?_⟩
      rw [int_dec]
      refine iteF ?_
      refine ⟨_, rfl, _, _, rfl, rfl, _, rfl, ?_⟩
      refine iteF ?_
      refine ⟨_, rfl, rfl, _, rfl, ?_⟩
      rw [int_dec]
      refine iteF ?_
      refine ⟨_, rfl, ?_⟩
      refine ⟨_, rfl, (by show 2 ≤ sizeLine; decide), fun t1 ht1 => ?_⟩
      have e2 := e1.trans (same_new ht1 (.tup [.int 11, .int 13]))
      refine ⟨t1, [.int 11, .int 13], rfl, .inr (SqT.of upd_same), rfl, rfl, _, rfl, ?_⟩
      refine iteT ?_
      refine ⟨_, rfl, _, rfl, _, _, rfl, rfl, _, _, rfl, rfl, ?_⟩
      refine ⟨_, rfl, (by show 2 ≤ sizeLine; decide), fun t3 ht3 => ?_⟩
      have e3 := e2.trans (same_new ht3 (.tup [.int 11, .int 12]))
      refine ⟨t3, [.int 11, .int 12], rfl, .inr (SqT.of upd_same), rfl, rfl, _, rfl, ?_⟩
      refine iteF ?_
      refine ⟨_, rfl, _, rfl, (by show 3 ≤ sizeLine; decide), fun t2 ht2 => ?_⟩
      refine k (.ref t2) _ (e3.trans (same_new ht2 _)) (.tup (SqT.of upd_same) (.cons (.str _) (.cons (.int _) (.cons ?_ .nil))))
      show Dp K _ (V.int (ea + (t - ea + 8) - 8)) (.int t)
      rw [show ea + (t - ea + 8) - 8 = t by omega]
      exact .int _
end
end Lk

set_option Elab.async false
set_option linter.all false
set_option maxRecDepth 100000
set_option maxHeartbeats 4000000
namespace Lk
open PySem PySem.Spec PyProof.Rows L2
def spRowsIn (K : PySem.W.Frag) : Sp := fun vs H Q _ => ∃ (a : Addr) (es : List Ent), vs = [.ref a] ∧ SqT K H a (iV (wordsE es)) ∧ Chain es ∧ (∀ e ∈ es, e.ok) ∧ es.length ≤ 100000 ∧ ∀ z H', Same H H' → Dp K H' z (backD es) → Q z H'
theorem chain_at {es : List Ent} {i : Nat} {e : Ent} (c : Chain es) (h : es[i]? = some e) : wordsE es = wordsE (es.take i) ++ (e.w0 :: e.snd.toList ++ wordsE (es.drop (i + 1))) := by
  have hi := (List.getElem?_eq_some_iff.mp h).1
  have he := (List.getElem?_eq_some_iff.mp h).2
  conv => lhs; rw [← List.take_append_drop i es, List.drop_eq_getElem_cons hi, he]
  rw [wordsE_app]
  congr 1
  show wordsE ([e] ++ es.drop (i + 1)) = _
  rw [wordsE_app, wordsE_one, ws_eq]
theorem iV_app2 (a b : List Int) : iV (a ++ b) = iV a ++ iV b := by unfold iV; rw [List.map_append]
theorem at_mid {a b : List Int} {x : Int} : atI (iV (a ++ (x :: b))) (a.length : Int) = some (.int x) := by
  refine atI_nat ?_
  rw [iV_app2, List.getElem?_append_right (by rw [iV_len]; exact Nat.le_refl _), iV_len, Nat.sub_self]
  rfl
def twoV (e : Ent) : Bool := e.snd.isSome
theorem two_v {e : Ent} (h : e.ok) : inV (.int e.v) [.int 1, .int 12, .int 14, .int 15] = twoV e := by
  obtain ⟨a, r, lg, t⟩ := e
  unfold twoV
  cases r with
  | plain k => cases k <;> rfl
  | cell k c => rfl
  | num b n => rfl
  | two k b c => cases k <;> rfl
  | op k b c d pl =>
    have : ∀ k : Fin 7, inV (.int ((k.val : Int) + 4)) [.int 1, .int 12, .int 14, .int 15] = false := by decide +kernel
    exact this k
  | call u pl => rfl
  | jump u => cases lg <;> rfl
  | nought b u => cases lg <;> rfl
theorem backD_noL (e : Ent) : noL e.back = true := by
  obtain ⟨a, r, lg, t⟩ := e
  cases r <;> rfl
section
variable {P : Program} {w : World} {K : PySem.W.Frag} {mg : Str → Option Value} {base : Heap}
theorem ok_rows_in (T : Txt K mg) : FnOk P w K mg base CX0 3 T.f_rows_in T.d_rows_in ["words"] (spRowsIn K) := by
  have nd := sc_rows_in.nd
  refine T.F_rows_in.ok sc_rows_in (fun vs H Q E h => ?_) (fun cdv A outer s H vs Q E hr h => ?_)
  · obtain ⟨a, es, rfl, _⟩ := h
    rfl
  obtain ⟨a, es, rfl, ha, hc, hok, hn, k⟩ := h
  have G_parts_of : FnOk P w K mg base CX0 1 _ _ _ (spParts K) := ok_parts T
  have hr_parts_of := hr.mono (show 1 ≤ 2 by omega)
  have G__row_of : FnOk P w K mg base CX0 2 _ _ _ (spRowOf K) := ok_row_of T
  have hr__row_of := hr
  refine ⟨_, (pss_cons (ps_set (i := 1) nd rfl (Or.inl rfl) (pe_lst pa_nil))
      (pss_cons (ps_set (i := 2) nd rfl (Or.inl rfl) pe_int)
      (pss_cons (ps_while PassesOwn.never (pt_cmpR op_lt (pv 2) (pe_callB call_len_seq (by rfl) T.z_len PySem.boot_len (pa_cons (pv 0) pa_nil)) (nomark _)) (pss_cons (ps_set (i := 3) nd rfl (Or.inl rfl) pe_non)
      (pss_cons (ps_set (i := 4) nd rfl (Or.inl rfl) pe_int)
      (pss_cons (ps_if (pt_cmpR op_in_seq (pe_ix ix_tup (pe_call G_parts_of hr_parts_of rfl T.m_parts_of T.k_parts_of T.b_parts_of .nil pass0 (pa_cons (pe_ix ix_tup (pv 0) (pv 2) (fun _ _ => rfl)) pa_nil)) pe_int (fun _ _ => rfl)) (pe_tup (pa_cons (pe_glob (v := .int (1)) rfl T.c_NUMBER ⟨_, rfl⟩) (pa_cons (pe_glob (v := .int (12)) rfl T.c_LONG_JUMP ⟨_, rfl⟩) (pa_cons (pe_glob (v := .int (14)) rfl T.c_LONG_NOUGHT ⟨_, rfl⟩) (pa_cons (pe_glob (v := .int (15)) rfl T.c_CALL ⟨_, rfl⟩) pa_nil))))) (by rfl)) (pss_cons (ps_set (i := 3) nd rfl (Or.inl rfl) (pe_ix ix_tup (pv 0) (pe_op op_add (pv 2) pe_int) (fun _ _ => rfl)))
      (pss_one (ps_set (i := 4) nd rfl (Or.inl rfl) pe_int))) pss_nil)
      (pss_cons (ps_expr (pe_bm PySem.F.plainAttrs_list PySem.F.slot_list_append PySem.F.type_list_append mt_append (pv 1) (pa_cons (pe_tup (pa_cons (pv 2) (pa_cons (pe_call G__row_of hr__row_of rfl T.m__row_of T.k__row_of T.b__row_of .nil pass0 (pa_cons (pe_ix ix_tup (pv 0) (pv 2) (fun _ _ => rfl)) (pa_cons (pv 2) (pa_cons (pv 3) pa_nil)))) pa_nil))) pa_nil)))
      (pss_one (ps_aug (i := 2) nd rfl (Or.inl rfl) (pv 4) ip_add)))))))
      (pss_one (ps_ret (pe_callTy call_tuple_of (by rfl) T.z_tuple (by decide +kernel) (pa_cons (pv 1) pa_nil))))))), ?_⟩
  refine ⟨(by show 0 ≤ sizeLine; decide), fun D hD => ?_⟩
  refine ⟨fun m σ H' => ∃ (i : Nat) (o3 o4 : Option V) (acc : List V), σ = [some (.ref a), some (.ref D), some (.int ((wordsE (es.take i)).length : Int)), o3, o4] ∧ m = es.length - i ∧ i ≤ es.length ∧ Same H H' ∧ H' D = some (.lst acc) ∧ acc.length = i ∧ DpAll K (del H' D) acc ((es.take i).map Ent.back), ⟨_, 0, none, none, [], rfl, rfl, Nat.zero_le _, same_new hD _, upd_same, rfl, .nil⟩, ?_⟩
  rintro m σ H' ⟨i, o3, o4, acc, rfl, rfl, hi, e, eD, hl, hacc⟩
  refine ⟨_, rfl, _, rfl, a, _, rfl, .inr (seqT_same e ha), _, _, rfl, rfl, _, rfl, ?_⟩
  have hle : ∀ j, j < es.length → (wordsE (es.take j)).length < (wordsE es).length := fun j hj => by
    rw [chain_at hc (List.getElem?_eq_getElem hj)]
    simp only [List.length_append, List.length_cons]
    omega
  by_cases c : i < es.length
  · have hei := List.getElem?_eq_getElem c
    generalize es[i] = e0 at hei
    have hm := chain_at hc hei
    have hea := hc i e0 hei
    have hek := hok e0 (List.mem_of_getElem? hei)
    have hlt := hle i c
    refine ifT (decide_eq_true (show ((wordsE (es.take i)).length : Int) < ((iV (wordsE es)).length : Int) by rw [iV_len]; omega)) ?_
    refine ⟨fun σ' H'' => ∃ m', m' < es.length - i ∧ (∃ (i : Nat) (o3 o4 : Option V) (acc : List V), σ' = [some (.ref a), some (.ref D), some (.int ((wordsE (es.take i)).length : Int)), o3, o4] ∧ m' = es.length - i ∧ i ≤ es.length ∧ Same H H'' ∧ H'' D = some (.lst acc) ∧ acc.length = i ∧ DpAll K (del H'' D) acc ((es.take i).map Ent.back)), fun _ _ z => z, ?_⟩
    have at0 : atI (iV (wordsE es)) ((wordsE (es.take i)).length : Int) = some (.int e0.w0) := by rw [hm]; exact at_mid
    refine ⟨_, rfl, _, rfl, a, _, _, _, rfl, rfl, seqT_same e ha, at0, _, rfl, fun pa H1 e1 hpa => ?_⟩
    obtain ⟨p1, p2, p3, p4⟩ := parts_eq hek
    rw [p1, p2, p3, p4] at hpa
    refine ⟨pa, _, _, _, rfl, rfl, hpa, (by rfl : _ = some (V.int e0.v)), (by show 4 ≤ sizeLine; decide), fun t1 ht1 => ?_⟩
    have e2 := (e.trans e1).trans (same_new ht1 (.tup [.int 1, .int 12, .int 14, .int 15]))
    have e12 := e1.trans (same_new ht1 (.tup [.int 1, .int 12, .int 14, .int 15]))
    refine ⟨t1, [.int 1, .int 12, .int 14, .int 15], rfl, .inr (SqT.of upd_same), rfl, rfl, _, rfl, ?_⟩
    rw [two_v hek]
    generalize upd H1 t1 (.tup [.int 1, .int 12, .int 14, .int 15]) = H2 at e2 e12 ⊢
    have ek : es.take (i + 1) = es.take i ++ [e0] := by rw [List.take_succ, hei]; rfl
    cases hs : e0.snd with
    | none =>
      refine ifF (by unfold twoV; rw [hs]; rfl) ?_
      have sv : sndV e0 = .non := by unfold sndV; rw [hs]
      have wl : e0.ws.length = 1 := by rw [ws_eq, hs]; rfl
      refine ⟨_, rfl, .inl ⟨rfl, _, SqL.of (e12 _ _ eD)⟩, _, rfl, _, rfl, _, rfl, a, _, _, _, rfl, rfl, seqT_same e2 ha, at0, _, rfl, _, rfl, ?_⟩
      refine ⟨e0, by rw [hea, sv]; rfl, hek, fun z H3 e3 hz => ?_⟩
      refine ⟨(by show 2 ≤ sizeLine; decide), fun t2 ht2 => ?_⟩
      have eD3 := e3 _ _ (e12 _ _ eD)
      have eD4 : (upd H3 t2 (.tup [.int ((wordsE (es.take i)).length : Int), z])) D = some (.lst acc) := by rw [upd_ne (fun q => by rw [← q, eD3] at ht2; cases ht2)]; exact eD3
      refine ⟨D, acc, _, rfl, rfl, eD4, (by rw [hl]; exact szl (by omega)), ?_⟩
      refine ⟨_, rfl, _, rfl, _, _, rfl, rfl, ?_⟩
      have eH : Same H (upd H3 t2 (.tup [.int ((wordsE (es.take i)).length : Int), z])) := (e2.trans e3).trans (same_new ht2 _)
      refine ⟨es.length - (i + 1), by omega, i + 1, some .non, some (.int 1), acc ++ [.ref t2], ?_, rfl, by omega, same_mut eH hD, upd_same, by rw [List.length_append, hl]; rfl, ?_⟩
      · rw [ek, wordsE_app, wordsE_one, List.length_append, wl]
        rfl
      · rw [ek, List.map_append, del_upd]
        have h1 : Dp K (upd H3 t2 (.tup [.int ((wordsE (es.take i)).length : Int), z])) (.ref t2) e0.back := by
          rw [← hea]
          exact .tup (SqT.of upd_same) (.cons (.int _) (.cons (dp_same (same_new ht2 _) hz) .nil))
        exact dpAll_app (dpAll_same (same_del D ((e12.trans e3).trans (same_new ht2 _))) hacc) (dp_off eD4 (backD_noL e0) h1)
    | some n =>
      refine ifT (by unfold twoV; rw [hs]; rfl) ?_
      have sv : sndV e0 = .int n := by unfold sndV; rw [hs]
      have wl : e0.ws.length = 2 := by rw [ws_eq, hs]; rfl
      have at1 : atI (iV (wordsE es)) (((wordsE (es.take i)).length : Int) + 1) = some (.int n) := by
        rw [hm, hs, show wordsE (es.take i) ++ (e0.w0 :: (some n).toList ++ wordsE (es.drop (i + 1))) = (wordsE (es.take i) ++ [e0.w0]) ++ (n :: wordsE (es.drop (i + 1))) by simp]
        have := at_mid (a := wordsE (es.take i) ++ [e0.w0]) (b := wordsE (es.drop (i + 1))) (x := n)
        rw [List.length_append] at this
        exact this
      refine ⟨_, rfl, _, rfl, _, _, rfl, rfl, a, _, _, _, rfl, rfl, seqT_same e2 ha, at1, ?_⟩
      refine ⟨_, rfl, .inl ⟨rfl, _, SqL.of (e12 _ _ eD)⟩, _, rfl, _, rfl, _, rfl, a, _, _, _, rfl, rfl, seqT_same e2 ha, at0, _, rfl, _, rfl, ?_⟩
      refine ⟨e0, by rw [hea, sv]; rfl, hek, fun z H3 e3 hz => ?_⟩
      refine ⟨(by show 2 ≤ sizeLine; decide), fun t2 ht2 => ?_⟩
      have eD3 := e3 _ _ (e12 _ _ eD)
      have eD4 : (upd H3 t2 (.tup [.int ((wordsE (es.take i)).length : Int), z])) D = some (.lst acc) := by rw [upd_ne (fun q => by rw [← q, eD3] at ht2; cases ht2)]; exact eD3
      refine ⟨D, acc, _, rfl, rfl, eD4, (by rw [hl]; exact szl (by omega)), ?_⟩
      refine ⟨_, rfl, _, rfl, _, _, rfl, rfl, ?_⟩
      have eH : Same H (upd H3 t2 (.tup [.int ((wordsE (es.take i)).length : Int), z])) := (e2.trans e3).trans (same_new ht2 _)
      refine ⟨es.length - (i + 1), by omega, i + 1, some (.int n), some (.int 2), acc ++ [.ref t2], ?_, rfl, by omega, same_mut eH hD, upd_same, by rw [List.length_append, hl]; rfl, ?_⟩
      · rw [ek, wordsE_app, wordsE_one, List.length_append, wl]
        rfl
      · rw [ek, List.map_append, del_upd]
        have h1 : Dp K (upd H3 t2 (.tup [.int ((wordsE (es.take i)).length : Int), z])) (.ref t2) e0.back := by
          rw [← hea]
          exact .tup (SqT.of upd_same) (.cons (.int _) (.cons (dp_same (same_new ht2 _) hz) .nil))
        exact dpAll_app (dpAll_same (same_del D ((e12.trans e3).trans (same_new ht2 _))) hacc) (dp_off eD4 (backD_noL e0) h1)
  · obtain rfl : i = es.length := by omega
    refine ifF (decide_eq_false (show ¬ ((wordsE (es.take es.length)).length : Int) < ((iV (wordsE es)).length : Int) by rw [iV_len, List.take_length]; omega)) ?_
    rw [List.take_length] at hacc
    refine ⟨_, rfl, D, acc, rfl, .inl ⟨SqL.of eD, fun t ht => ?_⟩⟩
    exact k (.ref t) _ (e.trans (same_new ht _)) (.tup (SqT.of upd_same) (dpAll_same ((del_le H' D).trans (same_new ht _)) hacc))
end
end Lk

set_option Elab.async false
set_option linter.all false
set_option maxRecDepth 100000
set_option pp.maxSteps 1200
set_option maxHeartbeats 4000000
namespace Lk
open PySem PySem.Spec PyProof.Rows L2
def asOf (b : Int) (rs : List Ro) : List Int := (addrRs rs).map (b + ·)
theorem asOf_len (b : Int) (rs : List Ro) : (asOf b rs).length = rs.length + 1 := by
  unfold asOf addrRs addrs
  rw [List.length_map, addrsTo_len, ths_len]
theorem asOf_at {b : Int} {rs : List Ro} {k : Nat} (h : k ≤ rs.length) : (asOf b rs).getD k 0 = b + adr rs k := by
  unfold asOf
  have := addrsTo_at (cs := csOf rs) (ts := thsOf rs) (n := (thsOf rs).length) (k := k) (by rw [ths_len]; exact h)
  have h2 : k < (addrRs rs).length := by
    unfold addrRs addrs
    rw [addrsTo_len, ths_len]; omega
  have e2 : (addrsTo (csOf rs) (thsOf rs) (thsOf rs).length)[k]? = some ((addrRs rs)[k]) := List.getElem?_eq_getElem h2
  rw [List.getD_eq_getElem?_getD, e2] at this
  rw [List.getD_eq_getElem?_getD, List.getElem?_map, List.getElem?_eq_getElem h2]
  show b + (addrRs rs)[k] = b + adr rs k
  congr 1
theorem look_none {ss : List (Str × Int)} {t : Str} (h : ∀ p ∈ ss, p.1 ≠ t) : look ss t = none := by
  unfold look
  rw [List.find?_eq_none.mpr fun p m => by simpa using h p m]
  rfl
theorem look_some {ss : List (Str × Int)} {t : Str} (h : t ∈ ss.map (·.1)) : (look ss t).isSome = true := by
  unfold look
  rw [Option.isSome_map, List.find?_isSome]
  obtain ⟨p, m, e⟩ := List.mem_map.mp h
  exact ⟨p, m, by simpa using e⟩
theorem titles_ne {fs : List (Str × List Ro)} (W : WF fs) {i j : Nat} (hi : i < fs.length) (hj : j < fs.length) (h : i ≠ j) : (Fns.at fs i).1 ≠ (Fns.at fs j).1 := by
  intro e
  have n := W.nd
  have hi' : i < (fs.map (·.1)).length := by rwa [List.length_map]
  have hj' : j < (fs.map (·.1)).length := by rwa [List.length_map]
  have e1 : (fs.map (·.1))[i] = (Fns.at fs i).1 := by
    rw [List.getElem_map]; unfold Fns.at; rw [List.getD_eq_getElem?_getD, List.getElem?_eq_getElem hi]; rfl
  have e2 : (fs.map (·.1))[j] = (Fns.at fs j).1 := by
    rw [List.getElem_map]; unfold Fns.at; rw [List.getD_eq_getElem?_getD, List.getElem?_eq_getElem hj]; rfl
  rcases Nat.lt_or_gt_of_ne h with c | c
  · exact (List.pairwise_iff_getElem.mp n i j hi' hj' c) (by rw [e1, e2, e])
  · exact (List.pairwise_iff_getElem.mp n j i hj' hi' c) (by rw [e1, e2, e])
theorem starts_titles (fs : List (Str × List Ro)) : (startsOf fs).map (·.1) = fs.map (·.1) := by
  refine List.ext_getElem? fun i => ?_
  unfold startsOf startsTo
  rw [List.getElem?_map, List.getElem?_map, List.getElem?_map]
  by_cases h : i < fs.length
  · rw [List.getElem?_range h, Fns.at_eq h]
    rfl
  · rw [List.getElem?_eq_none (by rw [List.length_range]; omega), List.getElem?_eq_none (by omega)]
    rfl
def Ro.pl : Ro → Option Int
  | .op _ _ _ _ pl => pl
  | .call _ n => some n
  | _ => none
theorem place_eq (t : Str) (a : Int) (r : Ro) : r.place t a = match r.pl with | some n => [.tuple [.int a, .str t, .int n]] | none => [] := by
  cases r with
  | op k b c d pl => cases pl <;> rfl
  | _ => rfl
theorem pl_last {r : Ro} {n : Int} (h : r.pl = some n) : ∃ ds, (PyData.str r.verb :: r.args) = ds ++ [.int n] := by
  cases r with
  | op k b c d pl => cases h; exact ⟨[_, _, _, _], rfl⟩
  | call t m => cases h; exact ⟨[_, _], rfl⟩
  | _ => cases h
def plvs : List V := (["div", "rem", "call"] : List Str).map V.str
theorem strsQ : (inV (.str "beat") plvs = false) ∧ (inV (.str "back") plvs = false) ∧ (inV (.str "number") plvs = false) ∧ (inV (.str "move") plvs = false) ∧ (inV (.str "swap") plvs = false) ∧ (inV (.str "call") plvs = true) ∧ (inV (.str "jump") plvs = false) ∧ (inV (.str "nought") plvs = false) := by decide +kernel
theorem opV_Q : ∀ k : Fin 7, inV (.str (opV k)) plvs = (k == 3 || k == 4) := by decide +kernel
theorem cellV_Q : ∀ k : Fin 3, inV (.str (cellV k)) plvs = false := by decide +kernel
theorem verb_Q {r : Ro} {n : Nat} {ts : List Str} (hf : r.fit n ts) : inV (.str r.verb) ((["div", "rem", "call"] : List Str).map V.str) = r.pl.isSome := by
  obtain ⟨h1, h2, h3, h4, h5, h6, h7, h8⟩ := strsQ
  cases r with
  | plain k => cases k; exact h2; exact h1
  | cell k c => exact cellV_Q k
  | num b n => exact h3
  | two k b c => cases k; exact h5; exact h4
  | op k b c d pl =>
    have h : pl.isSome = true ↔ (k = 3 ∨ k = 4) := hf.2.2.2.1
    refine (opV_Q k).trans ?_
    show (k == 3 || k == 4) = pl.isSome
    cases hh : pl.isSome with
    | true => rcases h.mp hh with rfl | rfl <;> rfl
    | false =>
      rw [hh] at h
      have n3 : k ≠ 3 := fun z => absurd (h.mpr (.inl z)) Bool.false_ne_true
      have n4 : k ≠ 4 := fun z => absurd (h.mpr (.inr z)) Bool.false_ne_true
      simp [n3, n4]
  | call t pl => exact h6
  | jump t => exact h7
  | nought b t => exact h8
theorem ws_of {b : Int} {ss : List (Str × Int)} {rs : List Ro} {k : Nat} (h : k < rs.length) {t : Int} (ht : (rs.getD k (.plain true)).isT = true → t = (rs.getD k (.plain true)).to (fun t => b + adr rs t) ss) :
    (rs.getD k (.plain true)).words (b + adr rs k) (decide (V.int ((b + adr rs (k + 1)) - (b + adr rs k)) = V.int 2)) t = (entAt b ss rs k).ws := by
  rw [int_dec, show (b + adr rs (k + 1)) - (b + adr rs k) = lenT (csOf rs) k (rs.getD k (.plain true)).th by rw [adr_succ h]; omega]
  unfold Ent.ws entAt
  show _ = Ro.words (b + adr rs k) (decide (k ∈ csOf rs)) ((rs.getD k (.plain true)).to (fun t => b + adr rs t) ss) (rs.getD k (.plain true))
  generalize rs.getD k (.plain true) = r at *
  cases hT : r.isT with
  | true =>
    rw [ht hT]
    cases hJ : r.isJ with
    | false => exact words_lg hJ ..
    | true =>
      have : decide (lenT (csOf rs) k r.th = 2) = decide (k ∈ csOf rs) := by
        by_cases m : k ∈ csOf rs
        · cases r <;> first | (cases hJ; done) | simp [lenT, Ro.th, m]
        · cases r <;> first | (cases hJ; done) | simp [lenT, Ro.th, m]
      rw [this]
  | false =>
    have hJ : r.isJ = false := by cases r <;> first | rfl | cases hT
    rw [words_lg hJ _ _ _ (decide (k ∈ csOf rs))]
    exact words_to hT ..
theorem wordsE_le (es : List Ent) : (wordsE es).length ≤ 2 * es.length := by
  induction es with
  | nil => exact Nat.le_refl _
  | cons e es ih =>
    show (e.ws ++ wordsE es).length ≤ 2 * (es.length + 1)
    rw [List.length_append, ws_eq]
    have : (e.snd.toList).length ≤ 1 := by cases e.snd <;> simp
    simp only [List.length_cons]
    omega
theorem allTo_le {fs : List (Str × List Ro)} (W : WF fs) : ∀ n, n ≤ fs.length → (allTo fs n).length ≤ 2000 * n
  | 0, _ => Nat.le_refl _
  | n + 1, h => by
    rw [allTo_succ, List.length_append]
    have := allTo_le W n (by omega)
    have h2 := W.len _ (Fns.at_mem (fs := fs) (j := n) (by omega))
    unfold fnEnts
    rw [entsTo_len]
    omega
theorem placesTo_le (fs : List (Str × List Ro)) (j : Nat) : ∀ n, (placesTo fs j n).length ≤ n
  | 0 => Nat.le_refl _
  | n + 1 => by
    rw [placesTo_succ, List.length_append, place_eq]
    have := placesTo_le fs j n
    generalize ((Fns.at fs j).2.getD n (.plain true)).pl = q
    cases q <;> simp <;> omega
theorem placesAll_le {fs : List (Str × List Ro)} (W : WF fs) : ∀ n, n ≤ fs.length → (placesAll fs n).length ≤ 2000 * n
  | 0, _ => Nat.le_refl _
  | n + 1, h => by
    rw [placesAll_succ, List.length_append]
    have := placesAll_le W n (by omega)
    have h2 := W.len _ (Fns.at_mem (fs := fs) (j := n) (by omega))
    have h3 := placesTo_le fs n (Fns.at fs n).2.length
    omega
theorem good_ths {rs : List Ro} {ts : List Str} (h : ∀ r ∈ rs, r.fit rs.length ts) : GoodTs (thsOf rs) := by
  intro i t e
  by_cases c : i < rs.length
  · rw [ths_at rs c] at e
    have hm := h _ (getD_mem' c)
    rw [ths_len]
    generalize rs.getD i (.plain true) = r at *
    cases r with
    | jump u => cases e; exact hm
    | nought b u => cases e; exact hm.2
    | _ => cases e
  · rw [List.getD_eq_getElem?_getD, List.getElem?_eq_none (by rw [ths_len]; omega)] at e
    cases e
theorem noLs_app : ∀ (a b : List PyData), noLs (a ++ b) = (noLs a && noLs b)
  | [], b => rfl
  | d :: a, b => by
    show (noL d && noLs (a ++ b)) = ((noL d && noLs a) && noLs b)
    rw [noLs_app a b, Bool.and_assoc]
theorem noLs_place (t : Str) (a : Int) (r : Ro) : noLs (r.place t a) = true := by
  rw [place_eq]
  cases r.pl <;> rfl
theorem noLs_to (fs : List (Str × List Ro)) (j : Nat) : ∀ n, noLs (placesTo fs j n) = true
  | 0 => rfl
  | n + 1 => by rw [placesTo_succ, noLs_app, noLs_to fs j n, noLs_place]; rfl
theorem noLs_all (fs : List (Str × List Ro)) : ∀ n, noLs (placesAll fs n) = true
  | 0 => rfl
  | n + 1 => by rw [placesAll_succ, noLs_app, noLs_all fs n, noLs_to]; rfl
theorem noLs_places (fs : List (Str × List Ro)) (j i : Nat) : noLs (placesAll fs j ++ placesTo fs j i) = true := by rw [noLs_app, noLs_all, noLs_to]; rfl
def spLoad (K : PySem.W.Frag) : Sp := fun vs H Q _ => ∃ (x : V) (n tk g : Int) (fs : List (Str × List Ro)), vs = [x] ∧ Dp K H x (linkedD n tk g fs) ∧ WF fs ∧ ∀ z H', Same H H' → Dp K H' z (imageD n tk g fs) → Q z H'
section
variable {P : Program} {w : World} {K : PySem.W.Frag} {mg : Str → Option Value} {base : Heap}
theorem ok_load (T : Txt K mg) : FnOk P w K mg base CX0 6 T.f_load T.d_load ["linked"] (spLoad K) := by
  have nd := sc_load.nd
  refine T.F_load.ok sc_load (fun vs H Q E h => ?_) (fun cdv A outer s H vs Q E hr h => ?_)
  · obtain ⟨x, _, _, _, _, rfl, _⟩ := h
    rfl
  obtain ⟨x, n, tk, g, fs, rfl, hd, W, k⟩ := h
  have G__addresses_in : FnOk P w K mg base CX0 5 _ _ _ (spAIn K) := ok_aIn T
  have hr__addresses_in := hr
  have G__row_words : FnOk P w K mg base CX0 2 _ _ _ (spRW K) := ok_row_words T
  have hr__row_words := hr.mono (show 2 ≤ 5 by omega)
  have G__target_of : FnOk P w K mg base CX0 1 _ _ _ (spTarget K) := ok_target T
  have hr__target_of := hr.mono (show 1 ≤ 5 by omega)
  refine ⟨_, (pss_cons (ps_asg (pv 0) (pg_tup rfl (pgs_cons (pg_name (i := 1) nd rfl (Or.inl rfl)) (pgs_cons (pg_name (i := 2) nd rfl (Or.inl rfl)) (pgs_cons (pg_name (i := 3) nd rfl (Or.inl rfl)) (pgs_cons (pg_name (i := 4) nd rfl (Or.inl rfl)) pgs_nil))))))
      (pss_cons (ps_set (i := 5) nd rfl (Or.inl rfl) pe_dnewK)
      (pss_cons (ps_set (i := 6) nd rfl (Or.inl rfl) pe_dnewK)
      (pss_cons (ps_set (i := 7) nd rfl (Or.inr rfl) pe_int)
      (pss_cons (ps_for PassesOwn.never rfl (pi_tup (pv 4)) (pg_tup rfl (pgs_cons (pg_name (i := 8) nd rfl (Or.inl rfl)) (pgs_cons (pg_name (i := 9) nd rfl (Or.inl rfl)) (pgs_cons (pg_name (i := 10) nd rfl (Or.inl rfl)) pgs_nil))))
      (pss_cons (ps_dput (hu1 hr) (pv 5) (pv 8) (pv 7) rfl)
      (pss_cons (ps_dput (hu1 hr) (pv 6) (pv 8) (pe_lc (own := [("address", 16)]) (g := gName 16) (tt := tYes) (by rfl) nd (pi_list (pe_call G__addresses_in hr__addresses_in rfl T.m__addresses_in T.k__addresses_in T.b__addresses_in .nil pass0 (pa_cons (pv 10) pa_nil))) (blkOk_by (own := [("address", 16)]) (N := sl_load) (sc := defScope s_load) (by decide +kernel)) (fun _ _ _ _ _ => pg_name (i := 16) nd rfl (Or.inl rfl)) (fun _ _ _ _ _ => pts_nil) (fun _ _ _ _ _ => (pe_op op_add (pv 7) (pv 16)))) rfl)
      (pss_one (ps_set (i := 7) nd rfl (Or.inr rfl) (pe_ix ix_list (pe_dget (hu1 hr) (pv 6) (pv 8) (fun _ _ => rfl)) (pe_un un_neg pe_int) (fun _ _ => rfl)))))))
      (pss_cons (ps_set (i := 11) nd rfl (Or.inl rfl) (pe_lst pa_nil))
      (pss_cons (ps_set (i := 12) nd rfl (Or.inl rfl) (pe_lst pa_nil))
      (pss_cons (ps_for PassesOwn.never rfl (pi_tup (pv 4)) (pg_tup rfl (pgs_cons (pg_name (i := 8) nd rfl (Or.inl rfl)) (pgs_cons (pg_name (i := 9) nd rfl (Or.inl rfl)) (pgs_cons (pg_name (i := 10) nd rfl (Or.inl rfl)) pgs_nil))))
      (pss_cons (ps_set (i := 13) nd rfl (Or.inl rfl) (pe_dget (hu1 hr) (pv 6) (pv 8) (fun _ _ => rfl)))
      (pss_one (ps_for PassesOwn.never rfl (pi_enumT (by rfl) T.z_enumerate (pa_cons (pv 10) pa_nil)) (pg_tup rfl (pgs_cons (pg_name (i := 14) nd rfl (Or.inl rfl)) (pgs_cons (pg_name (i := 15) nd rfl (Or.inl rfl)) pgs_nil)))
      (pss_cons (ps_expr (pe_bm PySem.F.plainAttrs_list PySem.F.slot_list_extend PySem.F.type_list_extend mt_extend (pv 11) (pa_cons (pe_call G__row_words hr__row_words rfl T.m__row_words T.k__row_words T.b__row_words .nil pass0 (pa_cons (pv 15) (pa_cons (pe_ix ix_list (pv 13) (pv 14) (fun _ _ => rfl)) (pa_cons (pe_cmpR op_eq (pe_op op_sub (pe_ix ix_list (pv 13) (pe_op op_add (pv 14) pe_int) (fun _ _ => rfl)) (pe_ix ix_list (pv 13) (pv 14) (fun _ _ => rfl))) pe_int (nomark _)) (pa_cons (pe_call G__target_of hr__target_of rfl T.m__target_of T.k__target_of T.b__target_of .nil pass0 (pa_cons (pv 15) (pa_cons (pv 13) (pa_cons (pv 5) pa_nil)))) pa_nil))))) pa_nil)))
      (pss_one (ps_if (pt_cmpR op_in_seq (pe_ix ix_tup (pv 15) pe_int (fun _ _ => rfl)) (pe_glob (v := .ref T.a_PLACED_VERBS) rfl T.c_PLACED_VERBS rfl) (by rfl)) (pss_one (ps_expr (pe_bm PySem.F.plainAttrs_list PySem.F.slot_list_append PySem.F.type_list_append mt_append (pv 12) (pa_cons (pe_tup (pa_cons (pe_ix ix_list (pv 13) (pv 14) (fun _ _ => rfl)) (pa_cons (pv 8) (pa_cons (pe_ix ix_tup (pv 15) (pe_un un_neg pe_int) (fun _ _ => rfl)) pa_nil)))) pa_nil)))) pss_nil)))))))
      (pss_one (ps_ret (pe_tup (pa_cons (pe_callTy call_tuple_of (by rfl) T.z_tuple (by decide +kernel) (pa_cons (pv 11) pa_nil)) (pa_cons (pe_dget (hu1 hr) (pv 5) pe_str (fun _ _ => rfl)) (pa_cons (pv 1) (pa_cons (pv 2) (pa_cons (pv 3) (pa_cons (pe_callTy call_tuple_of (by rfl) T.z_tuple (by decide +kernel) (pa_cons (pv 12) pa_nil)) pa_nil))))))))))))))))), ?_⟩
  obtain ⟨a, xs, rfl, ha, hx⟩ := tup_inv hd
  obtain ⟨x4, rfl, hx4⟩ : ∃ x4, xs = [.int n, .int tk, .int g, x4] ∧ Dp K H x4 (.tuple (fs.map fnD)) := by
    cases hx with
    | cons a1 r1 => cases r1 with
      | cons a2 r2 => cases r2 with
        | cons a3 r3 => cases r3 with
          | cons a4 r4 =>
            cases r4
            cases a1; cases a2; cases a3
            exact ⟨_, rfl, a4⟩
  obtain ⟨fa, fxs, rfl, hfa, hfx⟩ := tup_inv hx4
  have fl : fxs.length = fs.length := by rw [dp_len hfx, List.length_map]
  refine ⟨_, rfl, a, _, rfl, ha, rfl, _, _, rfl, _, _, rfl, _, _, rfl, _, _, rfl, rfl, ?_⟩
  refine fun S hS => ?_
  have e1 := same_new hS (.dK [])
  refine fun D hD => ?_
  have e2 := e1.trans (same_new hD (.dK []))
  have hD0 := none_of e1 hD
  have nSD : S ≠ D := fun z => by rw [← z, upd_same] at hD; cases hD
  refine ⟨_, rfl, fa, rfl, ⟨_, seqT_same e2 hfa⟩, ?_⟩
  refine for_tup (K := K) (a := fa) (xs := fxs) (fun j σ H' => ∃ (o8 o9 o10 : Option V) (kv : List (Key × V)), σ = [some (.ref a), some (.int n), some (.int tk), some (.int g), some (.ref fa), some (.ref S), some (.ref D), some (.int (baseAt fs j)), o8, o9, o10, none, none, none, none, none, none] ∧
    Same H H' ∧ H' S = some (.dK (sk (startsTo fs j))) ∧ H' D = some (.dK kv) ∧ kv.length = j ∧ (∀ i, i < j → ∃ p, valV kv (Sum.inr (Fns.at fs i).1) = some (.ref p) ∧ H' p = some (.lst (iV (asOf (baseAt fs i) (Fns.at fs i).2)))) ∧ (∀ i, j ≤ i → i < fs.length → valV kv (Sum.inr (Fns.at fs i).1) = none)) ?_ ?_ ?_ ?_
  · exact ⟨none, none, none, [], rfl, e2, by rw [upd_ne nSD, upd_same]; rfl, upd_same, rfl, fun i hi => (by omega), fun _ _ _ => rfl⟩
  · rintro j σ H' _ ⟨_, _, _, _, _, e, _⟩
    exact seqT_same e hfa
  · rintro j z σ H' hjz ⟨o8, o9, o10, kv, rfl, e, eS, eD, kl, kin, kout⟩
    have hj : j < fs.length := by have := (List.getElem?_eq_some_iff.mp hjz).1; omega
    obtain ⟨d, _, ed, hzd⟩ := dp_get hfx hjz
    rw [List.getElem?_map, Fns.at_eq hj] at ed
    obtain rfl : fnD (Fns.at fs j) = d := Option.some.inj ed
    have hF := Fns.at_mem hj
    have hlen := W.len _ hF
    have hfit := W.fit _ hF
    obtain ⟨za, zs, rfl, hza, hzs⟩ := tup_inv hzd
    obtain ⟨xr, rfl, hxr⟩ : ∃ xr, zs = [.str (Fns.at fs j).1, .int 0, xr] ∧ Dp K H xr (rowsD (Fns.at fs j).2) := by
      cases hzs with
      | cons a1 r1 => cases r1 with
        | cons a2 r2 => cases r2 with
          | cons a3 r3 =>
            cases r3
            cases a1; cases a2
            exact ⟨_, rfl, a3⟩
    refine ⟨za, _, rfl, seqT_same e hza, rfl, _, _, rfl, _, _, rfl, _, _, rfl, rfl, ?_⟩
    have hv0 : valV (sk (startsTo fs j)) (Sum.inr (Fns.at fs j).1) = none := by
      rw [sk_val, look_none fun p m => ?_]
      · rfl
      · obtain ⟨i, hi, rfl⟩ := List.mem_map.mp m
        have := List.mem_range.mp hi
        exact titles_ne W (by omega) hj (by omega)
    refine ⟨_, rfl, _, rfl, _, rfl, S, _, rfl, DPut.k (k := Sum.inr (Fns.at fs j).1) eS ?_, ?_⟩
    · unfold sk startsTo
      rw [List.length_map, List.length_map, List.length_range]
      exact szl (by have := W.few; omega)
    rw [putK_new _ hv0]
    have eS1 : sk (startsTo fs j) ++ [((Sum.inr (Fns.at fs j).1 : Key), V.int (baseAt fs j))] = sk (startsTo fs (j + 1)) := by
      rw [startsTo_succ]; unfold sk; rw [List.map_append]; rfl
    rw [eS1]
    have f1 : Same H (upd H' S (.dK (sk (startsTo fs (j + 1))))) := same_mut e hS
    have fS : (upd H' S (.dK (sk (startsTo fs (j + 1))))) S = some (.dK (sk (startsTo fs (j + 1)))) := upd_same
    have fD : (upd H' S (.dK (sk (startsTo fs (j + 1))))) D = some (.dK kv) := by rw [upd_ne (Ne.symm nSD)]; exact eD
    have fin : ∀ i, i < j → ∃ p, valV kv (Sum.inr (Fns.at fs i).1) = some (.ref p) ∧ (upd H' S (.dK (sk (startsTo fs (j + 1))))) p = some (.lst (iV (asOf (baseAt fs i) (Fns.at fs i).2))) := fun i hi => by
      obtain ⟨p, h1, h2⟩ := kin i hi
      exact ⟨p, h1, by rw [upd_ne (fun q => by rw [q, eS] at h2; cases h2)]; exact h2⟩
    generalize upd H' S (.dK (sk (startsTo fs (j + 1)))) = H1 at f1 fS fD fin ⊢
    refine ⟨_, rfl, xr, (Fns.at fs j).2, rfl, dp_same f1 hxr, hlen, good_ths hfit, fun pr H2 g2 hpr epr => ?_⟩
    refine ⟨pr, rfl, ⟨_, SqL.of epr⟩, fun R hR => ?_⟩
    refine lc_it (walk_list (K := K) (a := pr) (xs := iV (addrRs (Fns.at fs j).2))) (fun i H' => Same H2 H' ∧ H' R = some (.lst (iV (((addrRs (Fns.at fs j).2).take i).map (baseAt fs j + ·))))) ?_ ?_ ?_ ?_
    · exact ⟨same_new hR _, upd_same⟩
    · rintro i H' _ ⟨e, _⟩
      exact SqL.of (e _ _ epr)
    · rintro i z H4 H5 hi ⟨e4, e4R⟩ ⟨rfl, hz⟩
      rw [iV_len] at hi
      rw [iV_at hi] at hz
      cases hz
      refine ⟨rfl, ?_⟩
      have al : (addrRs (Fns.at fs j).2).length ≤ 2001 := by
        have := asOf_len 0 (Fns.at fs j).2
        unfold asOf at this
        rw [List.length_map] at this
        omega
      refine ⟨_, rfl, _, rfl, _, _, rfl, rfl, ?_⟩
      refine ⟨_, e4R, (by rw [iV_len, List.length_map, List.length_take]; exact szl (by omega)), same_mut e4 hR, ?_⟩
      rw [upd_same, List.take_succ, List.getElem?_eq_getElem hi, List.map_append, List.getD_eq_getElem?_getD, List.getElem?_eq_getElem hi, iV_app]
      rfl
    · rintro H4 ⟨e4, e4R⟩
      rw [iV_len, List.take_length] at e4R
      have e4R' : H4 R = some (.lst (iV (asOf (baseAt fs j) (Fns.at fs j).2))) := e4R
      refine ⟨_, rfl, _, rfl, D, _, rfl, DPut.k (k := Sum.inr (Fns.at fs j).1) (e4 _ _ (g2 _ _ fD)) (by rw [kl]; exact szl (by have := W.few; omega)), ?_⟩
      have hR0 : H R = none := none_of (f1.trans g2) hR
      have nRD : R ≠ D := fun q => by rw [q, g2 _ _ fD] at hR; cases hR
      have eH5 : ∀ (b : Addr) (o : HO), b ≠ D → H4 b = some o → (upd H4 D (.dK (putK kv (Sum.inr (Fns.at fs j).1) (V.ref R)))) b = some o := fun b o hb h => by rw [upd_ne hb]; exact h
      have gD : DGet (upd H4 D (.dK (putK kv (Sum.inr (Fns.at fs j).1) (V.ref R)))) D (.str (Fns.at fs j).1) (some (.ref R)) := by
        refine .inl ⟨_, Sum.inr (Fns.at fs j).1, .inl upd_same, rfl, ?_⟩
        rw [valV_put, if_pos rfl]
      have last : atI (iV (asOf (baseAt fs j) (Fns.at fs j).2)) (-1) = some (V.int (baseAt fs (j + 1))) := by
        have hl := asOf_len (baseAt fs j) (Fns.at fs j).2
        have h3 := asOf_at (b := baseAt fs j) (rs := (Fns.at fs j).2) (k := (Fns.at fs j).2.length) (Nat.le_refl _)
        generalize asOf (baseAt fs j) (Fns.at fs j).2 = ws at hl h3
        obtain ⟨ys, y, rfl⟩ : ∃ ys y, ws = ys ++ [y] := ⟨_, _, (List.dropLast_concat_getLast (fun q => by rw [q] at hl; cases hl)).symm⟩
        rw [List.length_append] at hl
        have hl2 : ys.length = (Fns.at fs j).2.length := by simpa using hl
        rw [List.getD_eq_getElem?_getD, ← hl2, List.getElem?_append_right (Nat.le_refl _), Nat.sub_self] at h3
        have h4 : y = baseAt fs (j + 1) := by
          show y = baseAt fs j + adr (Fns.at fs j).2 (Fns.at fs j).2.length
          rw [← hl2]; exact h3
        rw [← iV_app, h4]
        exact atI_last _ _
      refine ⟨_, rfl, _, rfl, D, _, rfl, gD, 1, rfl, R, _, _, _, rfl, rfl, SqL.of (eH5 R _ nRD e4R'), last, ?_⟩
      refine ⟨_, _, _, _, rfl, same_mut ((f1.trans g2).trans e4) hD0, ?_, upd_same, ?_, ?_, ?_⟩
      · exact eH5 S _ nSD (e4 _ _ (g2 _ _ fS))
      · rw [putK_new _ (kout j (Nat.le_refl _) hj), List.length_append, kl]; rfl
      · intro i hi
        by_cases c : i = j
        · subst c
          exact ⟨R, by rw [valV_put, if_pos rfl], eH5 R _ nRD e4R'⟩
        · obtain ⟨p, h1, h2⟩ := fin i (by omega)
          refine ⟨p, ?_, eH5 p _ (fun q => by rw [q, fD] at h2; cases h2) (e4 _ _ (g2 _ _ h2))⟩
          rw [valV_put, if_neg (fun q => titles_ne W (by omega) hj c (Sum.inr.inj q))]
          exact h1
      · intro i hi1 hi2
        rw [valV_put, if_neg (fun q => titles_ne W hi2 hj (by omega) (Sum.inr.inj q))]
        exact kout i (by omega) hi2
  · rintro σ G ⟨o8, o9, o10, kv, rfl, e, eS, eD, kl, kin, _⟩
    rw [fl] at eS kin
    refine ⟨(by show 0 ≤ sizeLine; decide), fun pw hpw => ?_⟩
    have u1 := same_new hpw (.lst [])
    refine ⟨(by show 0 ≤ sizeLine; decide), fun pp hpp => ?_⟩
    have u2 := u1.trans (same_new hpp (.lst []))
    have hpp0 := none_of u1 hpp
    have npw : pw ≠ pp := fun q => by rw [← q, upd_same] at hpp; cases hpp
    have bx : ∀ j, j ≤ fs.length → (wordsE (allTo fs j)).length ≤ 40000 := fun j hj => by
      have a1 := wordsE_le (allTo fs j)
      have a2 := allTo_le W j hj
      have := W.few
      omega
    have bp : ∀ j, j ≤ fs.length → (placesAll fs j).length ≤ 20000 := fun j hj => by
      have a2 := placesAll_le W j hj
      have := W.few
      omega
    refine ⟨_, rfl, fa, rfl, ⟨_, seqT_same (e.trans u2) hfa⟩, ?_⟩
    refine for_tup (K := K) (a := fa) (xs := fxs) (fun j σ H' => ∃ (o8 o9 o10 o13 o14 o15 : Option V) (acc : List V), σ = [some (.ref a), some (.int n), some (.int tk), some (.int g), some (.ref fa), some (.ref S), some (.ref D), some (.int (baseAt fs fxs.length)), o8, o9, o10, some (.ref pw), some (.ref pp), o13, o14, o15, none] ∧
      Same G H' ∧ H' pw = some (.lst (iV (wordsE (allTo fs j)))) ∧ H' pp = some (.lst acc) ∧ DpAll K (del H' pp) acc (placesAll fs j)) ?_ ?_ ?_ ?_
    · exact ⟨o8, o9, o10, none, none, none, [], rfl, u2, by rw [upd_ne npw, upd_same]; rfl, upd_same, .nil⟩
    · rintro j σ H' _ ⟨_, _, _, _, _, _, _, _, e', _⟩
      exact seqT_same (e.trans e') hfa
    · rintro j z σ H' hjz ⟨o8, o9, o10, o13, o14, o15, acc, rfl, e', ew, ep, hacc⟩
      have hj : j < fs.length := by have := (List.getElem?_eq_some_iff.mp hjz).1; omega
      obtain ⟨d, _, ed, hzd⟩ := dp_get hfx hjz
      rw [List.getElem?_map, Fns.at_eq hj] at ed
      obtain rfl : fnD (Fns.at fs j) = d := Option.some.inj ed
      have hF := Fns.at_mem hj
      have hlen := W.len _ hF
      have hfit := W.fit _ hF
      obtain ⟨za, zs, rfl, hza, hzs⟩ := tup_inv hzd
      obtain ⟨xr, rfl, hxr⟩ : ∃ xr, zs = [.str (Fns.at fs j).1, .int 0, xr] ∧ Dp K H xr (rowsD (Fns.at fs j).2) := by
        cases hzs with
        | cons a1 r1 => cases r1 with
          | cons a2 r2 => cases r2 with
            | cons a3 r3 =>
              cases r3
              cases a1; cases a2
              exact ⟨_, rfl, a3⟩
      obtain ⟨hp, hv1, hv2⟩ := kin j hj
      obtain ⟨ra, rxs, rfl, hra, hrx⟩ := tup_inv hxr
      have rl : rxs.length = (Fns.at fs j).2.length := by rw [dp_len hrx, List.length_map]
      refine ⟨za, _, rfl, seqT_same (e.trans e') hza, rfl, _, _, rfl, _, _, rfl, _, _, rfl, rfl, ?_⟩
      have gD : DGet H' D (.str (Fns.at fs j).1) (some (.ref hp)) := .inl ⟨_, Sum.inr (Fns.at fs j).1, .inl (e' _ _ eD), rfl, hv1.symm ▸ rfl⟩
      refine ⟨_, rfl, _, rfl, D, _, rfl, gD, ?_⟩
      generalize hb : baseAt fs j = b at *
      generalize hrs : (Fns.at fs j).2 = rs at *
      generalize htt : (Fns.at fs j).1 = tt at *
      refine ⟨_, rfl, ra, rxs, rfl, seqT_same (e.trans e') hra, ?_⟩
      have pt : ∀ n, placesTo fs j (n + 1) = placesTo fs j n ++ (rs.getD n (.plain true)).place tt (b + adr rs n) := fun n => by rw [placesTo_succ, hb, hrs, htt]
      have ptl := placesTo_le fs j
      refine for_it (walk_enumT (K := K) (a := ra) (xs := rxs)) (fun i σ H' => ∃ (o14 o15 : Option V) (acc : List V), σ = [some (.ref a), some (.int n), some (.int tk), some (.int g), some (.ref fa), some (.ref S), some (.ref D), some (.int (baseAt fs fxs.length)), some (.str tt), some (.int 0), some (.ref ra), some (.ref pw), some (.ref pp), some (.ref hp), o14, o15, none] ∧
        Same G H' ∧ H' pw = some (.lst (iV (wordsE (allTo fs j ++ entsTo b (startsOf fs) rs i)))) ∧ H' pp = some (.lst acc) ∧ DpAll K (del H' pp) acc (placesAll fs j ++ placesTo fs j i)) ?_ ?_ ?_ ?_
      · refine ⟨_, _, acc, rfl, e', ?_, ep, ?_⟩
        · rw [show entsTo b (startsOf fs) rs 0 = [] from rfl, List.append_nil]; exact ew
        · rw [show placesTo fs j 0 = [] from rfl, List.append_nil]; exact hacc
      · rintro i σ H' _ ⟨_, _, _, _, e', _⟩
        exact seqT_same (e.trans e') hra
      · rintro i y σ H3 H4 hi ⟨o14, o15, acc, rfl, e3, ew3, ep3, hacc3⟩ ⟨TT, y1, z, rfl, hTT, rfl, hy, hz⟩
        obtain rfl : V.int (i : Nat) = y1 := Option.some.inj hy
        have hi2 : i < rs.length := by omega
        obtain ⟨r, hr1, hdr⟩ : ∃ r, rs[i]? = some r ∧ Dp K H z r.d := by
          obtain ⟨d, _, e1, h1⟩ := dp_get hrx hz
          rw [List.getElem?_map] at e1
          cases c : rs[i]? with
          | none => rw [c] at e1; cases e1
          | some t =>
            rw [c] at e1
            obtain rfl : t.d = d := Option.some.inj e1
            exact ⟨t, rfl, h1⟩
        have hrg : rs.getD i (.plain true) = r := by rw [List.getD_eq_getElem?_getD, hr1]; rfl
        have hrm : r ∈ rs := List.mem_of_getElem? hr1
        have hft := hfit r hrm
        have e4 : Same G (upd H3 TT (.tup [.int (i : Nat), z])) := e3.trans (same_new hTT _)
        have ew4 : (upd H3 TT (.tup [.int (i : Nat), z])) pw = some (.lst (iV (wordsE (allTo fs j ++ entsTo b (startsOf fs) rs i)))) := same_new hTT _ _ _ ew3
        have ep4 : (upd H3 TT (.tup [.int (i : Nat), z])) pp = some (.lst acc) := same_new hTT _ _ _ ep3
        have hacc4 := dpAll_same (same_del pp (same_new hTT (.tup [.int (i : Nat), z]))) hacc3
        refine ⟨TT, _, rfl, SqT.of upd_same, rfl, _, _, rfl, _, _, rfl, rfl, ?_⟩
        generalize upd H3 TT (.tup [.int (i : Nat), z]) = H4 at e4 ew4 ep4 hacc4 ⊢
        have hhp := e4 _ _ hv2
        have hasl := asOf_len b rs
        have at0 : atI (iV (asOf b rs)) (i : Int) = some (V.int (b + adr rs i)) := by
          refine atI_nat ?_
          rw [iV_at (by omega), asOf_at (by omega)]
        have at1 : atI (iV (asOf b rs)) ((i : Int) + 1) = some (V.int (b + adr rs (i + 1))) := by
          rw [show (i : Int) + 1 = ((i + 1 : Nat) : Int) by omega]
          refine atI_nat ?_
          rw [iV_at (by omega), asOf_at (by omega)]
        refine ⟨_, rfl, .inl ⟨rfl, _, SqL.of ew4⟩, _, rfl, _, rfl, _, rfl, hp, _, _, _, rfl, rfl, SqL.of hhp, at0, ?_⟩
        refine ⟨_, rfl, _, rfl, _, _, rfl, rfl, hp, _, _, _, rfl, rfl, SqL.of hhp, at1, _, rfl, _, rfl, hp, _, _, _, rfl, rfl, SqL.of hhp, at0, _, _, rfl, rfl, rfl, ?_⟩
        have hstt : sk (startsTo fs fs.length) = sk (startsOf fs) := rfl
        have hdr4 : Dp K H4 z r.d := dp_same (e.trans e4) hdr
        have htok : r.tok (asOf b rs) (startsOf fs) := by
          cases r with
          | jump t =>
            have : t ≤ rs.length := hft
            show t < (asOf b rs).length
            omega
          | nought c t =>
            have : reg c ∧ t ≤ rs.length := hft
            show t < (asOf b rs).length
            omega
          | call t m =>
            have : t ∈ fs.map (·.1) := hft.1
            exact look_some (by rw [starts_titles]; exact this)
          | _ => trivial
        refine ⟨_, rfl, _, rfl, _, rfl, z, hp, S, r, asOf b rs, startsOf fs, rfl, hdr4, SqL.of hhp, e4 _ _ eS, htok, fun H5 e5 => ?_⟩
        have htg : r.isT = true → dV (r.tgt (asOf b rs) (startsOf fs)) = .int (r.to (fun t => b + adr rs t) (startsOf fs)) := fun hT => by
          cases r with
          | jump t =>
            have : t ≤ rs.length := hft
            show V.int ((asOf b rs).getD t 0) = _
            rw [asOf_at this]; rfl
          | nought c t =>
            have : reg c ∧ t ≤ rs.length := hft
            show V.int ((asOf b rs).getD t 0) = _
            rw [asOf_at this.2]; rfl
          | call t m => rfl
          | _ => cases hT
        refine ⟨z, _, r, b + adr rs i, decide (V.int ((b + adr rs (i + 1)) - (b + adr rs i)) = V.int 2), r.to (fun t => b + adr rs t) (startsOf fs), rfl, dp_same e5 hdr4, htg, fun pn H6 e6 hpn epn => ?_⟩
        have hws := ws_of (b := b) (ss := startsOf fs) (rs := rs) (k := i) hi2 (t := r.to (fun t => b + adr rs t) (startsOf fs)) (fun _ => by rw [hrg])
        rw [hrg] at hws
        rw [hws] at epn
        have ew6 := (e5.trans e6) _ _ ew4
        have ep6 := (e5.trans e6) _ _ ep4
        have hwl : (wordsE (allTo fs j ++ entsTo b (startsOf fs) rs i)).length + (entAt b (startsOf fs) rs i).ws.length ≤ 100000 := by
          have q1 := bx j (by omega)
          have q2 := wordsE_le (entsTo b (startsOf fs) rs i)
          have q3 := wordsE_le [entAt b (startsOf fs) rs i]
          rw [wordsE_one] at q3
          rw [entsTo_len] at q2
          rw [wordsE_app, List.length_append]
          simp only [List.length_cons, List.length_nil] at q3
          omega
        refine ⟨pw, pn, _, _, rfl, rfl, ew6, epn, (by rw [iV_len, iV_len]; exact Nat.le_of_lt (szl (by omega))), ?_⟩
        have ewn : iV (wordsE (allTo fs j ++ entsTo b (startsOf fs) rs i)) ++ iV (entAt b (startsOf fs) rs i).ws = iV (wordsE (allTo fs j ++ entsTo b (startsOf fs) rs (i + 1))) := by
          rw [← iV_app2, entsTo_succ, ← List.append_assoc, wordsE_app (allTo fs j ++ _), wordsE_one]
        rw [ewn]
        have hpw0 : G pw = none := hpw
        have e7 : Same G (upd H6 pw (.lst (iV (wordsE (allTo fs j ++ entsTo b (startsOf fs) rs (i + 1)))))) := same_mut ((e4.trans e5).trans e6) hpw0
        have ew7 : (upd H6 pw (.lst (iV (wordsE (allTo fs j ++ entsTo b (startsOf fs) rs (i + 1)))))) pw = some (.lst (iV (wordsE (allTo fs j ++ entsTo b (startsOf fs) rs (i + 1))))) := upd_same
        have ep7 : (upd H6 pw (.lst (iV (wordsE (allTo fs j ++ entsTo b (startsOf fs) rs (i + 1)))))) pp = some (.lst acc) := by rw [upd_ne (Ne.symm npw)]; exact ep6
        have hacc7 : DpAll K (del (upd H6 pw (.lst (iV (wordsE (allTo fs j ++ entsTo b (startsOf fs) rs (i + 1)))))) pp) acc (placesAll fs j ++ placesTo fs j i) := by
          have q := dpAll_same (same_del pp (e5.trans e6)) hacc4
          have nl : noLs (placesAll fs j ++ placesTo fs j i) = true := noLs_places ..
          have q2 := dpAll_off (l := pw) (ys := iV (wordsE (allTo fs j ++ entsTo b (startsOf fs) rs i))) (by rw [del_ne npw]; exact ew6) nl q
          refine dpAll_same (fun b' o h => ?_) q2
          by_cases c1 : b' = pw
          · subst c1; rw [del_same] at h; cases h
          · rw [del_ne c1] at h
            by_cases c2 : b' = pp
            · subst c2; rw [del_same] at h; cases h
            · rw [del_ne c2] at h ⊢
              rw [upd_ne c1]; exact h
        have hdr7 : Dp K (upd H6 pw (.lst (iV (wordsE (allTo fs j ++ entsTo b (startsOf fs) rs (i + 1)))))) z r.d := dp_same (e.trans e7) hdr
        generalize upd H6 pw (.lst (iV (wordsE (allTo fs j ++ entsTo b (startsOf fs) rs (i + 1))))) = H7 at e7 ew7 ep7 hacc7 hdr7 ⊢
        obtain ⟨qa, qs, rfl, hqa, hqx, hq0⟩ := row_head hdr7
        refine ⟨_, rfl, qa, _, _, _, rfl, rfl, hqa, hq0, T.a_PLACED_VERBS, _, rfl, .inr (T.s_PLACED_VERBS H7), rfl, rfl, _, rfl, ?_⟩
        rw [verb_Q hft]
        cases hpl : r.pl with
        | none =>
          refine iteF ?_
          refine ⟨_, _, acc, rfl, e7, ew7, ep7, ?_⟩
          rw [pt, hrg, place_eq, hpl, List.append_nil]
          exact hacc7
        | some m =>
          refine iteT ?_
          obtain ⟨ds, er⟩ := pl_last hpl
          have hqx' := hqx
          rw [er] at hqx'
          obtain ⟨ys, zl, rfl, hzl⟩ := dp_lastI hqx'
          obtain rfl : zl = .int m := by cases hzl; rfl
          have hhp7 := e7 _ _ hv2
          refine ⟨_, rfl, .inl ⟨rfl, _, SqL.of ep7⟩, _, rfl, _, rfl, hp, _, _, _, rfl, rfl, SqL.of hhp7, at0, _, rfl, _, rfl, 1, rfl, qa, _, _, _, rfl, rfl, hqa, atI_last _ _, ?_⟩
          refine ⟨(by show 3 ≤ sizeLine; decide), fun t2 ht2 => ?_⟩
          have npt : pp ≠ t2 := fun q => by rw [← q, ep7] at ht2; cases ht2
          have nwt : pw ≠ t2 := fun q => by rw [← q, ew7] at ht2; cases ht2
          have ep8 : (upd H7 t2 (.tup [.int (b + adr rs i), .str tt, .int m])) pp = some (.lst acc) := by rw [upd_ne npt]; exact ep7
          have hal : acc.length ≤ 30000 := by
            have q1 := bp j (by omega)
            have q2 := ptl i
            rw [dp_len hacc7, List.length_append]
            omega
          refine ⟨pp, acc, _, rfl, rfl, ep8, szl (by omega), ?_⟩
          refine ⟨_, _, acc ++ [.ref t2], rfl, ?_, ?_, upd_same, ?_⟩
          · exact same_mut (e7.trans (same_new ht2 _)) hpp0
          · rw [upd_ne npw, upd_ne nwt]; exact ew7
          · rw [pt, hrg, place_eq, hpl, ← List.append_assoc, del_upd]
            refine dpAll_app (dpAll_same (same_del pp (same_new ht2 _)) hacc7) (dp_off ep8 rfl ?_)
            exact .tup (SqT.of upd_same) (.cons (.int _) (.cons (.str _) (.cons (.int _) .nil)))
      · rintro σ H' ⟨o14, o15, acc, rfl, e', ew, ep, hacc⟩
        rw [rl] at ew hacc
        refine ⟨_, _, _, _, _, _, acc, rfl, e', ?_, ep, ?_⟩
        · rw [allTo_succ]
          unfold fnEnts
          rw [hb, hrs]
          exact ew
        · rw [placesAll_succ, hrs]
          exact hacc
    · rintro σ H' ⟨o8, o9, o10, o13, o14, o15, acc, rfl, e', ew, ep, hacc⟩
      rw [fl] at ew hacc
      refine ⟨_, rfl, pw, _, rfl, .inl ⟨SqL.of ew, fun t1 ht1 => ?_⟩⟩
      have e8 := e'.trans (same_new ht1 (.tup (iV (wordsE (allTo fs fs.length)))))
      have hlk : look (startsOf fs) "main" = some (mainAt fs) := by
        have : (look (startsOf fs) "main").isSome = true := look_some (by rw [starts_titles]; exact W.main)
        unfold mainAt
        cases hh : look (startsOf fs) "main" with
        | none => rw [hh] at this; cases this
        | some v => rfl
      have gS : DGet (upd H' t1 (.tup (iV (wordsE (allTo fs fs.length))))) S (.str "main") (some (.int (mainAt fs))) := by
        refine .inl ⟨_, Sum.inr "main", .inl (e8 _ _ eS), rfl, ?_⟩
        show _ = valV (sk (startsOf fs)) (Sum.inr "main")
        rw [sk_val, hlk]; rfl
      have ep8 : (upd H' t1 (.tup (iV (wordsE (allTo fs fs.length))))) pp = some (.lst acc) := same_new ht1 _ _ _ ep
      refine ⟨_, rfl, S, _, rfl, gS, _, rfl, _, rfl, _, rfl, _, rfl, pp, _, rfl, .inl ⟨SqL.of ep8, fun t2 ht2 => ?_⟩⟩
      refine ⟨(by show 6 ≤ sizeLine; decide), fun t3 ht3 => ?_⟩
      have e9 := same_new ht2 (.tup acc)
      have e10 := same_new ht3 (.tup [.ref t1, .int (mainAt fs), .int n, .int tk, .int g, .ref t2])
      refine k (.ref t3) _ (e.trans (e8.trans (e9.trans e10))) (.tup (SqT.of upd_same) ?_)
      refine .cons ?_ (.cons (.int _) (.cons (.int _) (.cons (.int _) (.cons (.int _) (.cons ?_ .nil)))))
      · exact dp_same (e9.trans e10) (.tup (SqT.of upd_same) (dp_ints _))
      · exact dp_same e10 (.tup (SqT.of upd_same) (dpAll_same ((same_del pp (same_new ht1 _)).trans ((del_le _ pp).trans e9)) hacc))
end
end Lk

set_option Elab.async false
set_option linter.all false
set_option maxRecDepth 100000
set_option pp.maxSteps 1500
set_option maxHeartbeats 4000000
namespace Lk
open PySem PySem.Spec PyProof.Rows L2
theorem in_nV (cs : List Nat) (i : Nat) : inV (.int (i : Int)) (nV cs) = decide (i ∈ cs) := by
  induction cs with
  | nil => rfl
  | cons c cs ih =>
    have : inV (.int (i : Int)) (nV (c :: cs)) = (((c : Int) == (i : Int)) || inV (.int (i : Int)) (nV cs)) := rfl
    rw [this, ih]
    by_cases e : c = i
    · subst e; simp
    · have : ((c : Int) == (i : Int)) = false := beq_eq_false_iff_ne.mpr (by omega)
      rw [this, Bool.false_or]
      have h2 : i ≠ c := fun z => e z.symm
      simp [h2]
theorem eqvAll_nats : ∀ a b : List Nat, PyData.eqvAll (a.map fun (i : Nat) => .int (i : Int)) (b.map fun (i : Nat) => .int (i : Int)) = decide (a = b)
  | [], [] => rfl
  | [], _ :: _ => rfl
  | _ :: _, [] => rfl
  | x :: a, y :: b => by
    show (((x : Int) == (y : Int)) && PyData.eqvAll (a.map fun (i : Nat) => .int (i : Int)) (b.map fun (i : Nat) => .int (i : Int))) = _
    rw [eqvAll_nats a b]
    by_cases h : x = y
    · subst h; simp
    · rw [beq_eq_false_iff_ne.mpr (show (x : Int) ≠ y by omega), Bool.false_and, decide_eq_false (fun z => h (List.cons.inj z).1)]
def nD (cs : List Nat) : PyData := .list (cs.map fun (i : Nat) => .int (i : Int))
theorem nD_eqv (a b : List Nat) : PyData.eqv (nD a) (nD b) = decide (a = b) := eqvAll_nats a b
theorem nV_dp {K : PySem.W.Frag} {H : Hp} : ∀ cs : List Nat, DpAll K H (nV cs) (cs.map fun (i : Nat) => .int (i : Int))
  | [] => .nil
  | w :: r => .cons (.int w) (nV_dp r)
theorem shaped_nD (cs : List Nat) : SeqAt.shaped (nD cs) = true := by
  have := shaped_iV (cs.map fun (i : Nat) => (i : Int))
  rw [List.map_map] at this
  exact this
def lateD : Option (List Nat) → PyData
  | none => .none
  | some cs => nD cs
theorem shaped_late (lp : Option (List Nat)) : SeqAt.shaped (lateD lp) = true := by
  cases lp with
  | none => rfl
  | some cs => exact shaped_nD cs
theorem late_eqv (cs : List Nat) (lp : Option (List Nat)) : PyData.eqv (nD cs) (lateD lp) = decide (lp = some cs) := by
  cases lp with
  | none => rfl
  | some cp =>
    show PyData.eqv (nD cs) (nD cp) = _
    rw [nD_eqv]
    by_cases h : cs = cp
    · subst h; simp
    · rw [decide_eq_false h, decide_eq_false (fun z => h (Option.some.inj z).symm)]
theorem th_isJ (r : Ro) : r.th.isJ = r.isJ := by cases r <;> rfl
theorem far_isJ {cs : List Nat} {rs : List Ro} {i : Nat} (h : i ∈ farL cs (thsOf rs) (-8) 7) : (rs.getD i (.plain true)).isJ = true := by
  obtain ⟨h1, h2⟩ := List.mem_filter.mp h
  have hi : i < rs.length := by rw [ths_len] at h1; exact List.mem_range.mp h1
  unfold isFar at h2
  rw [ths_at rs hi] at h2
  rw [← th_isJ]
  cases hh : (rs.getD i (.plain true)).th with
  | len n => rw [hh] at h2; cases h2
  | jmp t => rfl
def spotsOf (b : Int) (cs : List Nat) (rs : List Ro) : List Int := (addrs cs (thsOf rs)).map (b + ·)
theorem spotsOf_at {b : Int} {cs : List Nat} {rs : List Ro} {k : Nat} (h : k ≤ rs.length) : (iV (spotsOf b cs rs))[k]? = some (V.int (b + addrAt cs (thsOf rs) k)) := by
  unfold spotsOf addrs addrsTo iV
  rw [List.getElem?_map, List.getElem?_map, List.getElem?_map, List.getElem?_range (by rw [ths_len]; omega)]
  rfl
def kvL : List Str := ["beat", "back", "tell", "keep", "fetch"]
def kdL : List Str := ["move", "swap", "add", "sub", "mul", "div", "rem", "less", "same"]
theorem nJ : (("nought" : Str) == "jump") = false := by decide +kernel
theorem nN : (("number" : Str) == "call") = false ∧ (("number" : Str) == "jump") = false ∧ (("number" : Str) == "nought") = false := by decide +kernel
theorem n2 : ∀ q : Bool, ((Ro.two q 0 0).verb == "call") = false ∧ ((Ro.two q 0 0).verb == "jump") = false ∧ ((Ro.two q 0 0).verb == "nought") = false ∧ ((Ro.two q 0 0).verb == "number") = false := by decide +kernel
theorem nO : ∀ q : Fin 7, (opV q == "call") = false ∧ (opV q == "jump") = false ∧ (opV q == "nought") = false ∧ (opV q == "number") = false ∧ opV q ∈ kdL ∧ kdL.idxOf (opV q) = q.val + 2 := by decide +kernel
theorem idx_strs : ∀ {L : List Str} {s : Str}, s ∈ L → (L.map V.str)[L.idxOf s]? = some (.str s) ∧ ∀ (m : Nat) (z' : V), m < L.idxOf s → (L.map V.str)[m]? = some z' → eqV z' (.str s) = false
  | x :: L, s, h => by
    by_cases e : x = s
    · subst e
      have : (x :: L).idxOf x = 0 := by simp
      rw [this]
      exact ⟨rfl, fun m z' hm => by omega⟩
    · have hb : (x == s) = false := beq_eq_false_iff_ne.mpr e
      have i1 : (x :: L).idxOf s = L.idxOf s + 1 := by simp [List.idxOf_cons, hb]
      have hm : s ∈ L := by
        rcases List.mem_cons.mp h with q | q
        · exact absurd q.symm e
        · exact q
      obtain ⟨a, b⟩ := idx_strs hm
      rw [i1]
      refine ⟨a, fun m z' hm hz => ?_⟩
      cases m with
      | zero =>
        obtain rfl : V.str x = z' := Option.some.inj hz
        exact hb
      | succ m => exact b m z' (by omega) hz
def spSize (K : PySem.W.Frag) : Sp := fun vs H Q _ => ∃ (x : V) (r : Ro), vs = [x] ∧ Dp K H x r.d ∧ Q (.int (if r.is2 then 2 else 1)) H
def spSpots (K : PySem.W.Frag) : Sp := fun vs H Q _ => ∃ (x : V) (b : Int) (f : Addr) (rs : List Ro) (cs : List Nat), vs = [x, .int b, .ref f] ∧ Dp K H x (rowsD rs) ∧ SqL K H f (nV cs) ∧ rs.length ≤ 2000 ∧ cs.length ≤ 2000 ∧ (∀ k ∈ cs, (rs.getD k (.plain true)).isJ = true) ∧
  ∀ p H', Same H H' → H p = none → H' p = some (.lst (iV (spotsOf b cs rs))) → Q (.ref p) H'
def spLFar (K : PySem.W.Frag) : Sp := fun vs H Q _ => ∃ (x : V) (rs : List Ro), vs = [x] ∧ Dp K H x (rowsD rs) ∧ rs.length ≤ 2000 ∧ GoodTs (thsOf rs) ∧ ∀ p H', Same H H' → H p = none → H' p = some (.lst (nV (csOf rs))) → Q (.ref p) H'
def Ro.wto (ss : List (Str × Int)) (t : Int) : Ro → Int
  | .call u _ => (look ss u).getD 0
  | _ => t
def spWorded (K : PySem.W.Frag) : Sp := fun vs H Q _ => ∃ (x : V) (r : Ro) (a t : Int) (lg : Bool) (hd : Addr) (ss : List (Str × Int)) (n : Nat) (ts : List Str), vs = [x, .int a, .int t, .bl lg, .ref hd] ∧ Dp K H x r.d ∧ H hd = some (.dK (sk ss)) ∧ r.fit n ts ∧ (∀ t ∈ ts, (look ss t).isSome = true) ∧
  ∀ p H', Same H H' → H p = none → H' p = some (.lst (iV (r.words a lg (r.wto ss t)))) → Q (.ref p) H'
section
variable {P : Program} {w : World} {K : PySem.W.Frag} {mg : Str → Option Value} {base : Heap}
theorem ok_size (T : Txt K mg) : FnOk P w K mg base CX0 1 T.f__law_size T.d__law_size ["_law_row"] (spSize K) := by
  have nd := sc__law_size.nd
  refine T.F__law_size.ok sc__law_size (fun vs H Q E h => ?_) (fun cdv A outer s H vs Q E hr h => ?_)
  · obtain ⟨x, r, rfl, _⟩ := h
    rfl
  obtain ⟨x, r, rfl, hd, k⟩ := h
  refine ⟨_, (pss_one (ps_ret (pe_ifExp (PW.pt (pw_or (pt_cmpR op_eq (pe_ix ix_tup (pv 0) pe_int (fun _ _ => rfl)) pe_str (nomark _)) (pw_or1 (pt_cmpR op_eq (pe_ix ix_tup (pv 0) pe_int (fun _ _ => rfl)) pe_str (nomark _))))) pe_int pe_int))), ?_⟩
  obtain ⟨a, xs, rfl, ha, hx, h0⟩ := row_head hd
  refine ⟨_, rfl, a, _, _, _, rfl, rfl, ha, h0, rfl, _, rfl, ?_⟩
  have e2 := verb_2 r
  rw [str_dec]
  cases c1 : (r.verb == "number") with
  | true =>
    rw [c1, Bool.true_or] at e2
    rw [← e2] at k
    refine iteT ?_
    refine iteT ?_
    exact k
  | false =>
    rw [c1, Bool.false_or] at e2
    refine iteF ?_
    refine ⟨_, rfl, a, _, _, _, rfl, rfl, ha, h0, rfl, _, rfl, ?_⟩
    rw [str_dec, e2]
    cases c2 : r.is2 with
    | true =>
      rw [c2] at k
      refine iteT ?_
      exact k
    | false =>
      rw [c2] at k
      refine iteF ?_
      exact k
theorem ok_spots (T : Txt K mg) : FnOk P w K mg base CX0 2 T.f__law_spots T.d__law_spots ["_law_rows_here", "_law_base", "_law_far_here"] (spSpots K) := by
  have nd := sc__law_spots.nd
  refine T.F__law_spots.ok sc__law_spots (fun vs H Q E h => ?_) (fun cdv A outer s H vs Q E hr h => ?_)
  · obtain ⟨x, b, f, rs, cs, rfl, _⟩ := h
    rfl
  obtain ⟨x, b, f, rs, cs, rfl, hd, hf, hl, hcl, hcj, k⟩ := h
  have G__law_size : FnOk P w K mg base CX0 1 _ _ _ (spSize K) := ok_size T
  have hr__law_size := hr
  refine ⟨_, (pss_cons (ps_set (i := 3) nd rfl (Or.inl rfl) (pe_lst (pa_cons (pv 1) pa_nil)))
      (pss_cons (ps_for PassesOwn.never rfl (pi_range1 (by rfl) T.z_range (pa_cons (pe_callB call_len_seq (by rfl) T.z_len PySem.boot_len (pa_cons (pv 0) pa_nil)) pa_nil)) (pg_name (i := 4) nd rfl (Or.inl rfl))
      (pss_one (ps_expr (pe_bm PySem.F.plainAttrs_list PySem.F.slot_list_append PySem.F.type_list_append mt_append (pv 3) (pa_cons (pe_op op_add (pe_ix ix_list (pv 3) (pe_un un_neg pe_int) (fun _ _ => rfl)) (pe_ifExp (pt_cmpR op_in_seq (pv 4) (pv 2) (by rfl)) pe_int (pe_call G__law_size hr__law_size rfl T.m__law_size T.k__law_size T.b__law_size .nil pass0 (pa_cons (pe_ix ix_tup (pv 0) (pv 4) (fun _ _ => rfl)) pa_nil)))) pa_nil)))))
      (pss_one (ps_ret (pv 3))))), ?_⟩
  obtain ⟨a, xs, rfl, ha, hx⟩ := tup_inv hd
  have hxl : xs.length = rs.length := by rw [dp_len hx, List.length_map]
  refine ⟨_, rfl, (by show 1 ≤ sizeLine; decide), fun p hp => ?_⟩
  have s0 : Same H (upd H p (.lst [.int b])) := same_new hp _
  refine ⟨_, rfl, a, _, rfl, .inr (seqT_same s0 ha), (xs.length : Int), rfl, by omega, by omega, ?_⟩
  refine for_range (lo := 0) (n := (xs.length : Int).toNat) (fun i σ H' => ∃ (o4 : Option V), σ = [some (.ref a), some (.int b), some (.ref f), some (.ref p), o4] ∧ Same H H' ∧ H' p = some (.lst (iV ((addrsTo cs (thsOf rs) i).map (b + ·))))) ?_ ?_ ?_
  · refine ⟨none, rfl, s0, ?_⟩
    rw [upd_same]
    show some (HO.lst [.int b]) = some (HO.lst [.int (b + 0)])
    rw [Int.add_zero]
  · rintro i σ H1 hi ⟨o4, rfl, e, ep⟩
    have hi2 : i < rs.length := by omega
    obtain ⟨z, hz, hzd⟩ := dp_nth hx (i := i) (by rw [List.length_map]; exact hi2)
    rw [List.getElem_map] at hzd
    have hrg : rs.getD i (.plain true) = rs[i] := by rw [List.getD_eq_getElem?_getD, List.getElem?_eq_getElem hi2]; rfl
    rw [← hrg] at hzd
    have step : (addrsTo cs (thsOf rs) (i + 1)).map (b + ·) = (addrsTo cs (thsOf rs) i).map (b + ·) ++ [b + (addrAt cs (thsOf rs) i + lenT cs i (rs.getD i (.plain true)).th)] := by
      unfold addrsTo
      rw [List.range_succ, List.map_append, List.map_append, ← ths_at rs hi2]
      rfl
    have last : atI (iV ((addrsTo cs (thsOf rs) i).map (b + ·))) (-1) = some (V.int (b + addrAt cs (thsOf rs) i)) := by
      have : addrsTo cs (thsOf rs) i = (List.range i).map (addrAt cs (thsOf rs)) ++ [addrAt cs (thsOf rs) i] := by
        unfold addrsTo
        rw [List.range_succ, List.map_append]
        rfl
      rw [this, List.map_append, iV_app2]
      exact atI_last _ _
    have inn : inV (.int ((0 : Int) + (i : Int))) (nV cs) = decide (i ∈ cs) := by rw [Int.zero_add]; exact in_nV cs i
    have fl : (nV cs).all flatV = true := by unfold nV; rw [List.all_map]; exact List.all_eq_true.mpr fun _ _ => rfl
    have len : (iV ((addrsTo cs (thsOf rs) i).map (b + ·))).length < sizeLine := by rw [iV_len, List.length_map, addrsTo_len]; exact szl (by omega)
    refine ⟨_, rfl, .inl ⟨rfl, _, SqL.of ep⟩, _, rfl, 1, rfl, p, _, _, _, rfl, rfl, SqL.of ep, last, ?_⟩
    refine ⟨_, rfl, _, rfl, f, _, rfl, .inl (e.seq hf), rfl, fl, _, rfl, ?_⟩
    rw [inn]
    by_cases m : i ∈ cs
    · refine ifT (decide_eq_true m) ?_
      refine ⟨_, _, rfl, rfl, p, _, _, rfl, rfl, ep, len, _, rfl, same_mut e hp, ?_⟩
      rw [upd_same, iV_app, step]
      have : lenT cs i (rs.getD i (.plain true)).th = 2 := by
        have hj := hcj i m
        generalize rs.getD i (.plain true) = r at hj
        cases r <;> first | (cases hj; done) | simp [lenT, Ro.th, m]
      rw [this]
      rw [Int.add_assoc]
    · refine ifF (decide_eq_false m) ?_
      refine ⟨_, rfl, _, rfl, a, _, _, _, rfl, rfl, seqT_same e ha, (by rw [Int.zero_add]; exact atI_nat hz), z, rs.getD i (.plain true), rfl, dp_same e hzd, ?_⟩
      refine ⟨_, _, rfl, rfl, p, _, _, rfl, rfl, ep, len, _, rfl, same_mut e hp, ?_⟩
      rw [upd_same, iV_app, step]
      have : lenT cs i (rs.getD i (.plain true)).th = if (rs.getD i (.plain true)).is2 then 2 else 1 := by
        generalize rs.getD i (.plain true) = r
        cases r <;> simp [lenT, Ro.th, Ro.is2, m]
      rw [this]
      rw [Int.add_assoc]
  · rintro σ H' ⟨o4, rfl, e, ep⟩
    refine ⟨_, rfl, k p H' e hp ?_⟩
    rw [ep]
    unfold spotsOf addrs
    rw [ths_len, show (xs.length : Int).toNat = rs.length by omega]
theorem ok_lfar (T : Txt K mg) : FnOk P w K mg base CX0 3 T.f__law_far T.d__law_far ["_law_rows_here"] (spLFar K) := by
  have nd := sc__law_far.nd
  refine T.F__law_far.ok sc__law_far (fun vs H Q E h => ?_) (fun cdv A outer s H vs Q E hr h => ?_)
  · obtain ⟨x, rs, rfl, _⟩ := h
    rfl
  obtain ⟨x, rs, rfl, hd, hl, hg, k⟩ := h
  have G__law_spots : FnOk P w K mg base CX0 2 _ _ _ (spSpots K) := ok_spots T
  have hr__law_spots := hr
  refine ⟨_, (pss_cons (ps_par (i := 1) (j := 2) rfl nd rfl rfl (by decide) rfl rfl (pa_cons (pe_lst pa_nil) (pa_cons pe_non pa_nil)) (by rfl))
      (pss_cons (ps_while PassesOwn.never (pt_cmpR (op_neD hr.units) (pv 1) (pv 2) (nomark _)) (pss_cons (ps_par3 (i := 2) (j := 3) (l := 1) rfl nd rfl rfl rfl (by decide) (by decide) (by decide) rfl rfl rfl (pa_cons (pv 1) (pa_cons (pe_call G__law_spots hr__law_spots rfl T.m__law_spots T.k__law_spots T.b__law_spots .nil pass0 (pa_cons (pv 0) (pa_cons pe_int (pa_cons (pv 1) pa_nil)))) (pa_cons (pe_callTy call_list_of (by rfl) T.z_list (by decide +kernel) (pa_cons (pv 1) pa_nil)) pa_nil))) (by rfl))
      (pss_one (ps_for PassesOwn.never rfl (pi_range1 (by rfl) T.z_range (pa_cons (pe_callB call_len_seq (by rfl) T.z_len PySem.boot_len (pa_cons (pv 0) pa_nil)) pa_nil)) (pg_name (i := 4) nd rfl (Or.inl rfl))
      (pss_one (ps_if (PW.pt (pw_and (pt_cmpR op_in_seq (pe_ix ix_tup (pe_ix ix_tup (pv 0) (pv 4) (fun _ _ => rfl)) pe_int (fun _ _ => rfl)) (pe_tup (pa_cons pe_str (pa_cons pe_str pa_nil))) (by rfl)) (pw_and1 (pt_cmpR op_notIn_seq (pv 4) (pv 2) (by rfl))))) (pss_cons (ps_set (i := 5) nd rfl (Or.inl rfl) (pe_op op_sub (pe_ix ix_list (pv 3) (pe_ix ix_tup (pe_ix ix_tup (pv 0) (pv 4) (fun _ _ => rfl)) (pe_un un_neg pe_int) (fun _ _ => rfl)) (fun _ _ => rfl)) (pe_ix ix_list (pv 3) (pv 4) (fun _ _ => rfl))))
      (pss_one (ps_if (PW.pt (pw_or (pt_cmpR op_lt (pv 5) (pe_un un_neg pe_int) (nomark _)) (pw_or1 (pt_cmpR op_gt (pv 5) pe_int (nomark _))))) (pss_one (ps_expr (pe_bm PySem.F.plainAttrs_list PySem.F.slot_list_append PySem.F.type_list_append mt_append (pv 1) (pa_cons (pv 4) pa_nil)))) pss_nil))) pss_nil))))))
      (pss_one (ps_ret (pv 1))))), ?_⟩
  obtain ⟨a, xs, rfl, ha, hx⟩ := tup_inv hd
  have hxl : xs.length = rs.length := by rw [dp_len hx, List.length_map]
  refine ⟨(by show 0 ≤ sizeLine; decide), fun f0 hf0 => ⟨_, _, rfl, ?_⟩⟩
  let W : Nat → L2.St → Hp → Prop := fun m σ H' => ∃ (cs : List Nat) (lp : Option (List Nat)) (n : Nat) (f : Addr) (lv : V) (o3 o4 o5 : Option V), σ = [some (.ref a), some (.ref f), some lv, o3, o4, o5] ∧ m = 2 * (rs.length - cs.length) + (if lp = some cs then 0 else 1) ∧ Same H H' ∧ H f = none ∧ H' f = some (.lst (nV cs)) ∧ Dp K H' lv (lateD lp) ∧
    cs.Nodup ∧ (∀ i ∈ cs, i < rs.length) ∧ (∀ i ∈ cs, (rs.getD i (.plain true)).isJ = true) ∧ (∀ cp, lp = some cp → cs = cp ++ farL cp (thsOf rs) (-8) 7) ∧ leastN (thsOf rs) (-8) 7 n cs = csOf rs ∧ rs.length + 1 ≤ n + cs.length
  refine ⟨W, ⟨_, [], none, rs.length + 1, f0, .non, none, none, none, rfl, rfl, same_new hf0 _, hf0, upd_same, .non, List.nodup_nil, (fun _ m => nomatch m), (fun _ m => nomatch m), (fun _ z => nomatch z), (by rw [← ths_len]; rfl), Nat.le_refl _⟩, ?_⟩
  rintro m σ H' ⟨cs, lp, n, f, lv, o3, o4, o5, rfl, rfl, e, hf, ef, hlv, nd1, hlt, hj, hlp, hN, hn⟩
  have hcl := few_nat nd1 hlt
  have dpf : Dp K H' (.ref f) (nD cs) := .lst (SqL.of ef) (nV_dp cs)
  refine ⟨_, rfl, _, rfl, nD cs, lateD lp, dpf, hlv, shaped_nD cs, shaped_late lp, _, rfl, ?_⟩
  rw [late_eqv]
  by_cases c : lp = some cs
  · refine ifF (by rw [decide_eq_true c]; rfl) ?_
    have e1 := hlp cs c
    have e2 : farL cs (thsOf rs) (-8) 7 = [] := by
      have := congrArg List.length e1
      rw [List.length_append] at this
      exact List.eq_nil_of_length_eq_zero (by omega)
    have e3 : csOf rs = cs := by
      rw [← hN]
      cases n with
      | zero => rfl
      | succ n => rw [leastN, e2]
    refine ⟨_, rfl, k f H' e hf ?_⟩
    rw [e3]; exact ef
  · refine ifT (by rw [decide_eq_false c]; rfl) ?_
    rw [if_neg c]
    refine ⟨fun σ' H'' => ∃ m', m' < 2 * (rs.length - cs.length) + 1 ∧ W m' σ' H'', fun _ _ z => z, ?_⟩
    refine ⟨_, rfl, _, rfl, _, rfl, .ref a, 0, f, rs, cs, rfl, dp_same e hd, SqL.of ef, hl, by omega, hj, fun ps H1 e1 hps eps => ?_⟩
    have ef1 := e1 _ _ ef
    refine ⟨_, rfl, f, _, rfl, .inl (SqL.of ef1), fun f' hf' => ⟨_, _, _, rfl, ?_⟩⟩
    have e2 := e1.trans (same_new hf' (.lst (nV cs)))
    have hf'0 : H f' = none := none_of (e.trans e1) hf'
    have ef2 := e2 _ _ ef
    have eps2 := same_new hf' (.lst (nV cs)) _ _ eps
    refine ⟨_, rfl, a, _, rfl, .inr (seqT_same (e.trans e2) ha), (xs.length : Int), rfl, by omega, by omega, ?_⟩
    refine for_range (lo := 0) (n := (xs.length : Int).toNat) (fun i σ H3 => ∃ (o4 o5 : Option V), σ = [some (.ref a), some (.ref f'), some (.ref f), some (.ref ps), o4, o5] ∧ Same (upd H1 f' (.lst (nV cs))) (upd H3 f' (.lst (nV cs))) ∧ Same H1 H3 ∧ H3 f' = some (.lst (nV (cs ++ farTo cs (thsOf rs) (-8) 7 i)))) ?_ ?_ ?_
    · refine ⟨_, _, rfl, ?_, same_new hf' _, ?_⟩
      · intro b o h
        by_cases q : b = f'
        · subst q; rw [upd_same] at h ⊢; exact h
        · rw [upd_ne q] at h ⊢; rw [upd_ne q]; exact h
      · rw [upd_same]
        show some (HO.lst (nV cs)) = some (HO.lst (nV (cs ++ [])))
        rw [List.append_nil]
    · rintro i σ H3 hi ⟨o4, o5, rfl, _, e3, ef3⟩
      have hi2 : i < rs.length := by omega
      obtain ⟨z, hz, hzd⟩ := dp_nth hx (i := i) (by rw [List.length_map]; exact hi2)
      rw [List.getElem_map] at hzd
      have hrg : rs.getD i (.plain true) = rs[i] := by rw [List.getD_eq_getElem?_getD, List.getElem?_eq_getElem hi2]; rfl
      rw [← hrg] at hzd
      have hths := ths_at rs hi2
      have fe : isFar cs (thsOf rs) (-8) 7 i = (match (rs.getD i (.plain true)).th with
        | .len _ => false
        | .jmp t => decide (i ∉ cs) && !(decide (-8 ≤ addrAt cs (thsOf rs) t - addrAt cs (thsOf rs) i) && decide (addrAt cs (thsOf rs) t - addrAt cs (thsOf rs) i ≤ 7))) := by
        unfold isFar; rw [hths] <;> rfl
      have hgt : ∀ t, (rs.getD i (.plain true)).th = .jmp t → t ≤ rs.length := fun t h => by rw [← ths_len]; exact hg i t (by rw [hths]; exact h)
      generalize rs.getD i (.plain true) = r at hzd fe hgt
      have eH3 : Same H H3 := (e.trans e1).trans e3
      have hz3 := dp_same eH3 hzd
      obtain ⟨ra, rxs, rfl, hra, hrx, h0⟩ := row_head hz3
      have atz : atI xs ((0 : Int) + (i : Int)) = some (V.ref ra) := by rw [Int.zero_add]; exact atI_nat hz
      have ha3 := seqT_same eH3 ha
      have skip : isFar cs (thsOf rs) (-8) 7 i = false → ∀ H4, Same H1 H4 → H4 f' = some (.lst (nV (cs ++ farTo cs (thsOf rs) (-8) 7 i))) → ∀ (q4 q5 : Option V), ∃ (o4 o5 : Option V), [some (V.ref a), some (.ref f'), some (.ref f), some (.ref ps), q4, q5] = [some (V.ref a), some (.ref f'), some (.ref f), some (.ref ps), o4, o5] ∧ Same (upd H1 f' (.lst (nV cs))) (upd H4 f' (.lst (nV cs))) ∧ Same H1 H4 ∧ H4 f' = some (.lst (nV (cs ++ farTo cs (thsOf rs) (-8) 7 (i + 1)))) := fun h H4 g1 g2 q4 q5 => by
        refine ⟨_, _, rfl, ?_, g1, ?_⟩
        · intro b o h
          by_cases q : b = f'
          · subst q; rw [upd_same] at h ⊢; exact h
          · rw [upd_ne q] at h ⊢; exact g1 _ _ h
        · rw [farTo_succ, if_neg (by rw [h]; exact Bool.false_ne_true), List.append_nil]; exact g2
      refine ⟨_, rfl, _, rfl, a, _, _, _, rfl, rfl, ha3, atz, ra, _, _, _, rfl, rfl, hra, h0, (by show 2 ≤ sizeLine; decide), fun t1 ht1 => ?_⟩
      have e4 := e3.trans (same_new ht1 (.tup [.str "jump", .str "nought"]))
      have ef4 := same_new ht1 (.tup [.str "jump", .str "nought"]) _ _ ef3
      refine ⟨t1, [.str "jump", .str "nought"], rfl, .inr (SqT.of upd_same), rfl, rfl, _, rfl, ?_⟩
      rw [in_two, verb_j]
      cases hJ : r.isJ with
      | false =>
        refine iteF ?_
        refine iteF ?_
        refine skip ?_ _ e4 ef4 _ _
        rw [fe]
        cases r <;> first | (cases hJ; done) | rfl
      | true =>
        refine iteT ?_
        obtain ⟨t, ds, er, et⟩ := Ro.last hJ
        rw [et] at fe
        have ht := hgt t et
        have efl := e4 _ _ ef1
        have inn : inV (.int ((0 : Int) + (i : Int))) (nV cs) = decide (i ∈ cs) := by rw [Int.zero_add]; exact in_nV cs i
        have fl : (nV cs).all flatV = true := by unfold nV; rw [List.all_map]; exact List.all_eq_true.mpr fun _ _ => rfl
        refine ⟨_, rfl, _, rfl, f, _, rfl, .inl (SqL.of efl), rfl, fl, _, rfl, ?_⟩
        rw [inn]
        by_cases m : i ∈ cs
        · refine ifF (by rw [decide_eq_true m]; rfl) ?_
          refine skip ?_ _ e4 ef4 _ _
          rw [fe]
          show (decide (i ∉ cs) && _) = false
          rw [decide_eq_false (not_not_intro m)]; rfl
        · refine ifT (by rw [decide_eq_false m]; rfl) ?_
          have eps4 := e4 _ _ eps
          rw [er] at hrx
          obtain ⟨ys, zl, rfl, hzl⟩ := dp_lastI hrx
          obtain rfl : zl = .int t := by cases hzl; rfl
          have hra4 := seqT_same (same_new ht1 (.tup [.str "jump", .str "nought"])) hra
          have att : atI (iV (spotsOf 0 cs rs)) (t : Int) = some (V.int (0 + addrAt cs (thsOf rs) t)) := atI_nat (spotsOf_at ht)
          have ati : atI (iV (spotsOf 0 cs rs)) ((0 : Int) + (i : Int)) = some (V.int (0 + addrAt cs (thsOf rs) i)) := by rw [Int.zero_add]; exact atI_nat (spotsOf_at (by omega))
          have ha4 := seqT_same ((e.trans e1).trans e4) ha
          refine ⟨_, rfl, _, rfl, _, rfl, a, _, _, _, rfl, rfl, ha4, atz, 1, rfl, ra, _, _, _, rfl, rfl, hra4, atI_last _ _, ps, _, _, _, rfl, rfl, SqL.of eps4, att, _, rfl, _, rfl, ps, _, _, _, rfl, rfl, SqL.of eps4, ati, _, _, rfl, rfl, ?_⟩
          have fe2 : isFar cs (thsOf rs) (-8) 7 i = !(decide (-8 ≤ addrAt cs (thsOf rs) t - addrAt cs (thsOf rs) i) && decide (addrAt cs (thsOf rs) t - addrAt cs (thsOf rs) i ≤ 7)) := by
            rw [fe]
            show (decide (i ∉ cs) && _) = _
            rw [decide_eq_true m, Bool.true_and]
          have add : isFar cs (thsOf rs) (-8) 7 i = true → ∀ (q4 q5 : Option V), ∃ (o4 o5 : Option V), [some (V.ref a), some (.ref f'), some (.ref f), some (.ref ps), q4, q5] = [some (V.ref a), some (.ref f'), some (.ref f), some (.ref ps), o4, o5] ∧
              Same (upd H1 f' (.lst (nV cs))) (upd (upd (upd H3 t1 (.tup [.str "jump", .str "nought"])) f' (.lst (nV (cs ++ farTo cs (thsOf rs) (-8) 7 i) ++ [.int ((0 : Int) + (i : Int))]))) f' (.lst (nV cs))) ∧
              Same H1 (upd (upd H3 t1 (.tup [.str "jump", .str "nought"])) f' (.lst (nV (cs ++ farTo cs (thsOf rs) (-8) 7 i) ++ [.int ((0 : Int) + (i : Int))]))) ∧
              (upd (upd H3 t1 (.tup [.str "jump", .str "nought"])) f' (.lst (nV (cs ++ farTo cs (thsOf rs) (-8) 7 i) ++ [.int ((0 : Int) + (i : Int))]))) f' = some (.lst (nV (cs ++ farTo cs (thsOf rs) (-8) 7 (i + 1)))) := fun h q4 q5 => by
            have g1 : Same H1 (upd (upd H3 t1 (.tup [.str "jump", .str "nought"])) f' (.lst (nV (cs ++ farTo cs (thsOf rs) (-8) 7 i) ++ [.int ((0 : Int) + (i : Int))]))) := same_mut e4 hf'
            refine ⟨_, _, rfl, ?_, g1, ?_⟩
            · intro b o h
              by_cases q : b = f'
              · subst q; rw [upd_same] at h ⊢; exact h
              · rw [upd_ne q] at h ⊢; exact g1 _ _ h
            · rw [upd_same, farTo_succ, if_pos h, Int.zero_add, ← List.append_assoc]
              unfold nV
              rw [List.map_append (l₁ := cs ++ farTo cs (thsOf rs) (-8) 7 i)]
              rfl
          have few : (nV (cs ++ farTo cs (thsOf rs) (-8) 7 i)).length < sizeLine := by
            unfold nV farTo
            rw [List.length_map, List.length_append]
            have := List.length_filter_le (isFar cs (thsOf rs) (-8) 7) (List.range i)
            rw [List.length_range] at this
            exact szl (by omega)
          generalize addrAt cs (thsOf rs) t = T1 at fe2 ⊢
          generalize addrAt cs (thsOf rs) i = T2 at fe2 ⊢
          refine ⟨_, rfl, 8, rfl, _, _, rfl, rfl, _, rfl, ?_⟩
          by_cases c1 : (0 + T1) - (0 + T2) < -8
          · refine ifT (decide_eq_true c1) ?_
            refine iteT ?_
            refine ⟨_, rfl, .inl ⟨rfl, _, SqL.of ef4⟩, _, rfl, f', _, _, rfl, rfl, ef4, few, ?_⟩
            exact add (by rw [fe2, decide_eq_false (show ¬ -8 ≤ T1 - T2 by omega)]; rfl) _ _
          · refine ifF (decide_eq_false c1) ?_
            refine ⟨_, rfl, _, _, rfl, rfl, _, rfl, ?_⟩
            by_cases c2 : 7 < (0 + T1) - (0 + T2)
            · refine ifT (decide_eq_true c2) ?_
              refine ⟨_, rfl, .inl ⟨rfl, _, SqL.of ef4⟩, _, rfl, f', _, _, rfl, rfl, ef4, few, ?_⟩
              exact add (by rw [fe2, decide_eq_false (show ¬ T1 - T2 ≤ 7 by omega), Bool.and_false]; rfl) _ _
            · refine ifF (decide_eq_false c2) ?_
              refine skip ?_ _ e4 ef4 _ _
              rw [fe2, decide_eq_true (show -8 ≤ T1 - T2 by omega), decide_eq_true (show T1 - T2 ≤ 7 by omega)]; rfl
    · rintro σ H3 ⟨o4, o5, rfl, _, e3, ef3⟩
      have ef3' : H3 f' = some (.lst (nV (cs ++ farL cs (thsOf rs) (-8) 7))) := by
        rw [ef3, show (xs.length : Int).toNat = (thsOf rs).length by rw [ths_len]; omega]
        rfl
      have nd2 : (cs ++ farL cs (thsOf rs) (-8) 7).Nodup := List.nodup_append.mpr ⟨nd1, farL_nodup .., fun a ma b mb q => (farL_mem mb).2 (q ▸ ma)⟩
      have hlt2 : ∀ i ∈ cs ++ farL cs (thsOf rs) (-8) 7, i < rs.length := fun i mi => (List.mem_append.mp mi).elim (hlt i) fun h => by rw [← ths_len]; exact (farL_mem h).1
      have hj2 : ∀ i ∈ cs ++ farL cs (thsOf rs) (-8) 7, (rs.getD i (.plain true)).isJ = true := fun i mi => (List.mem_append.mp mi).elim (hj i) far_isJ
      have hcl2 := few_nat nd2 hlt2
      have eH3 := (e.trans e1).trans e3
      have dl : Dp K H3 (.ref f) (lateD (some cs)) := .lst (SqL.of (e3 _ _ ef1)) (nV_dp cs)
      cases efar : farL cs (thsOf rs) (-8) 7 with
      | nil =>
        rw [efar, List.append_nil] at ef3'
        refine ⟨2 * (rs.length - cs.length) + 0, by omega, cs, some cs, n, f', .ref f, _, _, _, rfl, by rw [if_pos rfl], eH3, hf'0, ef3', dl, nd1, hlt, hj, fun cp h => ?_, hN, hn⟩
        obtain rfl := Option.some.inj h
        rw [efar, List.append_nil]
      | cons g0 gr =>
        have hpos : (farL cs (thsOf rs) (-8) 7).length = gr.length + 1 := by rw [efar]; rfl
        have hl2 : (cs ++ farL cs (thsOf rs) (-8) 7).length = cs.length + gr.length + 1 := by rw [List.length_append, hpos]; omega
        obtain ⟨n', rfl⟩ : ∃ n', n = n' + 1 := ⟨n - 1, by omega⟩
        have hN' : leastN (thsOf rs) (-8) 7 n' (cs ++ farL cs (thsOf rs) (-8) 7) = csOf rs := by rw [← hN, leastN, efar]
        have hne : ¬ some cs = some (cs ++ farL cs (thsOf rs) (-8) 7) := fun z => by
          have := congrArg List.length (Option.some.inj z)
          omega
        refine ⟨2 * (rs.length - (cs ++ farL cs (thsOf rs) (-8) 7).length) + 1, by omega, cs ++ farL cs (thsOf rs) (-8) 7, some cs, n', f', .ref f, _, _, _, rfl, by rw [if_neg hne], eH3, hf'0, ef3', dl, nd2, hlt2, hj2, fun cp h => ?_, hN', by omega⟩
        obtain rfl := Option.some.inj h
        rfl
theorem ok_first (T : Txt K mg) : FnOk P w K mg base CX0 1 T.f__law_first T.d__law_first ["_law_a", "_law_b", "_law_c", "_law_d"] (spWord K) := by
  have nd := sc__law_first.nd
  refine T.F__law_first.ok sc__law_first (fun vs H Q E h => ?_) (fun cdv A outer s H vs Q E hr h => ?_)
  · obtain ⟨a, b, c, d, rfl, _⟩ := h
    rfl
  obtain ⟨a, b, c, d, rfl, k⟩ := h
  refine ⟨_, (pss_one (ps_ret (pe_op op_add (pe_op op_add (pe_op op_add (pe_op op_mul (pv 0) pe_int) (pe_op op_mul (pv 1) pe_int)) (pe_op op_mul (pv 2) pe_int)) (pv 3)))), ?_⟩
  exact ⟨_, rfl, _, _, rfl, rfl, .inr ⟨by decide, by decide⟩, _, rfl, _, _, rfl, rfl, .inr ⟨by decide, by decide⟩, _, _, rfl, rfl, _, rfl, _, _, rfl, rfl, .inr ⟨by decide, by decide⟩, _, _, rfl, rfl, _, rfl, _, _, rfl, rfl, k⟩
theorem ok_worded (T : Txt K mg) : FnOk P w K mg base CX0 2 T.f__law_worded T.d__law_worded ["_law_row", "_law_spot", "_law_to", "_law_is_far", "_law_heads"] (spWorded K) := by
  have nd := sc__law_worded.nd
  refine T.F__law_worded.ok sc__law_worded (fun vs H Q E h => ?_) (fun cdv A outer s H vs Q E hr h => ?_)
  · obtain ⟨x, r, a, t, lg, hd, ss, n, ts, rfl, _⟩ := h
    rfl
  obtain ⟨x, r, sp, t, lg, hh, ss, n, ts, rfl, hd, hhd, hf, hlk, k⟩ := h
  have G__law_first : FnOk P w K mg base CX0 1 _ _ _ (spWord K) := ok_first T
  have hr__law_first := hr
  refine ⟨_, (pss_cons (ps_set (i := 5) nd rfl (Or.inl rfl) (pe_lst (pa_cons pe_str (pa_cons pe_str (pa_cons pe_str (pa_cons pe_str (pa_cons pe_str pa_nil)))))))
      (pss_cons (ps_if (pt_cmpR op_in_seq (pe_ix ix_tup (pv 0) pe_int (fun _ _ => rfl)) (pv 5) (by rfl)) (pss_one (ps_ret (pe_lst (pa_cons (pe_call G__law_first hr__law_first rfl T.m__law_first T.k__law_first T.b__law_first .nil pass0 (pa_cons pe_int (pa_cons (pe_bm PySem.F.plainAttrs_list PySem.F.slot_list_index PySem.F.type_list_index mt_index (pv 5) (pa_cons (pe_ix ix_tup (pv 0) pe_int (fun _ _ => rfl)) pa_nil)) (pa_cons (pe_ifExp (pt_cmpR op_gt (pe_callB call_len_seq (by rfl) T.z_len PySem.boot_len (pa_cons (pv 0) pa_nil)) pe_int (nomark _)) (pe_ix ix_tup (pv 0) pe_int (fun _ _ => rfl)) pe_int) (pa_cons pe_int pa_nil))))) pa_nil)))) pss_nil)
      (pss_cons (ps_if (pt_cmpR op_eq (pe_ix ix_tup (pv 0) pe_int (fun _ _ => rfl)) pe_str (nomark _)) (pss_one (ps_ret (pe_lst (pa_cons (pe_call G__law_first hr__law_first rfl T.m__law_first T.k__law_first T.b__law_first .nil pass0 (pa_cons pe_int (pa_cons pe_int (pa_cons pe_int (pa_cons pe_int pa_nil))))) (pa_cons (pe_dget (hu1 hr) (pv 4) (pe_ix ix_tup (pv 0) pe_int (fun _ _ => rfl)) (fun _ _ => rfl)) pa_nil))))) pss_nil)
      (pss_cons (ps_if (pt_cmpR op_eq (pe_ix ix_tup (pv 0) pe_int (fun _ _ => rfl)) pe_str (nomark _)) (pss_one (ps_ret (pe_ifExp (pt_val (pv 3)) (pe_lst (pa_cons (pe_call G__law_first hr__law_first rfl T.m__law_first T.k__law_first T.b__law_first .nil pass0 (pa_cons pe_int (pa_cons pe_int (pa_cons pe_int (pa_cons pe_int pa_nil))))) (pa_cons (pv 2) pa_nil))) (pe_lst (pa_cons (pe_call G__law_first hr__law_first rfl T.m__law_first T.k__law_first T.b__law_first .nil pass0 (pa_cons pe_int (pa_cons pe_int (pa_cons pe_int (pa_cons (pe_op op_add (pe_op op_sub (pv 2) (pv 1)) pe_int) pa_nil))))) pa_nil))))) pss_nil)
      (pss_cons (ps_if (pt_cmpR op_eq (pe_ix ix_tup (pv 0) pe_int (fun _ _ => rfl)) pe_str (nomark _)) (pss_one (ps_ret (pe_ifExp (pt_val (pv 3)) (pe_lst (pa_cons (pe_call G__law_first hr__law_first rfl T.m__law_first T.k__law_first T.b__law_first .nil pass0 (pa_cons pe_int (pa_cons (pe_ix ix_tup (pv 0) pe_int (fun _ _ => rfl)) (pa_cons pe_int (pa_cons pe_int pa_nil))))) (pa_cons (pv 2) pa_nil))) (pe_lst (pa_cons (pe_call G__law_first hr__law_first rfl T.m__law_first T.k__law_first T.b__law_first .nil pass0 (pa_cons pe_int (pa_cons (pe_ix ix_tup (pv 0) pe_int (fun _ _ => rfl)) (pa_cons pe_int (pa_cons (pe_op op_add (pe_op op_sub (pv 2) (pv 1)) pe_int) pa_nil))))) pa_nil))))) pss_nil)
      (pss_cons (ps_if (pt_cmpR op_eq (pe_ix ix_tup (pv 0) pe_int (fun _ _ => rfl)) pe_str (nomark _)) (pss_one (ps_ret (pe_lst (pa_cons (pe_call G__law_first hr__law_first rfl T.m__law_first T.k__law_first T.b__law_first .nil pass0 (pa_cons pe_int (pa_cons (pe_ix ix_tup (pv 0) pe_int (fun _ _ => rfl)) (pa_cons pe_int (pa_cons pe_int pa_nil))))) (pa_cons (pe_ix ix_tup (pv 0) pe_int (fun _ _ => rfl)) pa_nil))))) pss_nil)
      (pss_cons (ps_set (i := 6) nd rfl (Or.inl rfl) (pe_lst (pa_cons pe_str (pa_cons pe_str (pa_cons pe_str (pa_cons pe_str (pa_cons pe_str (pa_cons pe_str (pa_cons pe_str (pa_cons pe_str (pa_cons pe_str pa_nil)))))))))))
      (pss_one (ps_ret (pe_lst (pa_cons (pe_call G__law_first hr__law_first rfl T.m__law_first T.k__law_first T.b__law_first .nil pass0 (pa_cons (pe_op op_add pe_int (pe_bm PySem.F.plainAttrs_list PySem.F.slot_list_index PySem.F.type_list_index mt_index (pv 6) (pa_cons (pe_ix ix_tup (pv 0) pe_int (fun _ _ => rfl)) pa_nil))) (pa_cons (pe_ix ix_tup (pv 0) pe_int (fun _ _ => rfl)) (pa_cons (pe_ix ix_tup (pv 0) pe_int (fun _ _ => rfl)) (pa_cons (pe_ifExp (pt_cmpR op_gt (pe_callB call_len_seq (by rfl) T.z_len PySem.boot_len (pa_cons (pv 0) pa_nil)) pe_int (nomark _)) (pe_ix ix_tup (pv 0) pe_int (fun _ _ => rfl)) pe_int) pa_nil))))) pa_nil))))))))))), ?_⟩
  obtain ⟨a, xs, rfl, ha, hx, h0⟩ := row_head hd
  refine ⟨(by show 5 ≤ sizeLine; decide), fun pv hpv => ?_⟩
  have s1 := same_new hpv (.lst [.str "beat", .str "back", .str "tell", .str "keep", .str "fetch"])
  have epv : (upd H pv (.lst [.str "beat", .str "back", .str "tell", .str "keep", .str "fetch"])) pv = some (.lst (kvL.map V.str)) := upd_same
  have hhd1 := s1 _ _ hhd
  have hd1 := dp_same s1 hd
  have ha1 := seqT_same s1 ha
  generalize upd H pv (.lst [.str "beat", .str "back", .str "tell", .str "keep", .str "fetch"]) = H1 at s1 epv hhd1 hd1 ha1 ⊢
  have fin : ∀ ws H2, Same H1 H2 → ws = iV (r.words sp lg (r.wto ss t)) → ∀ q, H2 q = none → Q (.ref q) (upd H2 q (.lst ws)) := fun ws H2 g h q hq => by
    refine k q _ (s1.trans (g.trans (same_new hq _))) (none_of (s1.trans g) hq) ?_
    rw [upd_same, h]
  refine ⟨_, rfl, a, _, _, _, rfl, rfl, ha1, h0, _, rfl, pv, _, rfl, .inl (SqL.of epv), rfl, rfl, _, rfl, ?_⟩
  rw [show inV (.str r.verb) (kvL.map V.str) = r.isP from verb_P r]
  cases r with
  | plain q =>
    refine iteT ?_
    obtain ⟨z, rfl⟩ : ∃ z, xs = [z] := by
      have := dp_len hx
      match xs, this with
      | [z], _ => exact ⟨z, rfl⟩
    obtain ⟨i1, i2⟩ := idx_strs (L := kvL) (s := (Ro.plain q).verb) (by cases q <;> decide +kernel)
    refine ⟨_, rfl, .inl ⟨rfl, _, SqL.of epv⟩, _, rfl, a, _, _, _, rfl, rfl, ha1, h0, pv, _, _, _, _, rfl, rfl, SqL.of epv, rfl, rfl, i1, beq_self_eq_true _, i2, ?_⟩
    refine ⟨_, rfl, a, _, rfl, .inr ha1, _, _, rfl, rfl, _, rfl, ?_⟩
    refine iteF ?_
    refine ⟨0, _, 0, 0, rfl, ?_⟩
    refine ⟨(by show 1 ≤ sizeLine; decide), fun p hp => fin _ _ (Same.refl _) ?_ p hp⟩
    cases q <;> rfl
  | cell q c =>
    refine iteT ?_
    obtain ⟨z1, z2, rfl⟩ : ∃ z1 z2, xs = [z1, z2] := by
      have := dp_len hx
      match xs, this with
      | [z1, z2], _ => exact ⟨z1, z2, rfl⟩
    have h1 := arg_at (i := 0) hx (by rfl : _ = some (PyData.int c))
    obtain ⟨m1, m2⟩ := cellV_idx q
    obtain ⟨i1, i2⟩ := idx_strs (L := kvL) (s := cellV q) m1
    refine ⟨_, rfl, .inl ⟨rfl, _, SqL.of epv⟩, _, rfl, a, _, _, _, rfl, rfl, ha1, h0, pv, _, _, _, _, rfl, rfl, SqL.of epv, rfl, rfl, i1, beq_self_eq_true _, i2, ?_⟩
    refine ⟨_, rfl, a, _, rfl, .inr ha1, _, _, rfl, rfl, _, rfl, ?_⟩
    refine iteT ?_
    refine ⟨_, rfl, a, _, _, _, rfl, rfl, ha1, h1, ?_⟩
    refine ⟨0, _, c, 0, rfl, ?_⟩
    refine ⟨(by show 1 ≤ sizeLine; decide), fun p hp => fin _ _ (Same.refl _) ?_ p hp⟩
    show [V.int (0 * 4096 + ((kvL.idxOf (cellV q) : Nat) : Int) * 256 + c * 16 + 0)] = [V.int (((q.val : Int) + 2) * 256 + c * 16)]
    have m2' : kvL.idxOf (cellV q) = q.val + 2 := m2
    rw [m2', show (0 * 4096 + ((q.val + 2 : Nat) : Int) * 256 + c * 16 + 0) = ((q.val : Int) + 2) * 256 + c * 16 by omega]
  | call u pl =>
    refine iteF ?_
    refine ⟨_, rfl, a, _, _, _, rfl, rfl, ha1, h0, rfl, _, rfl, ?_⟩
    rw [show decide (V.str (Ro.call u pl).verb = V.str "call") = true from decide_eq_true rfl]
    refine iteT ?_
    have h1 : atI xs 1 = some (V.str u) := by
      obtain ⟨x, ex, hx'⟩ := dp_nth hx (i := 1) (by show 1 < 3; decide)
      have hx2 : Dp K H x (.str u) := hx'
      obtain rfl : x = .str u := by cases hx2; rfl
      exact atI_nat (j := 1) ex
    have hl : look ss u = some ((look ss u).getD 0) := by
      have : (look ss u).isSome = true := hlk u hf.1
      cases hh : look ss u with
      | none => rw [hh] at this; cases this
      | some v => rfl
    have dg : DGet H1 hh (.str u) (valV (sk ss) (Sum.inr u)) := .inl ⟨_, Sum.inr u, .inl hhd1, rfl, rfl⟩
    rw [sk_val, hl] at dg
    refine ⟨15, 0, 0, 0, rfl, _, rfl, _, rfl, a, _, _, _, rfl, rfl, ha1, h1, hh, _, rfl, dg, ?_⟩
    refine ⟨(by show 2 ≤ sizeLine; decide), fun p hp => fin _ _ (Same.refl _) ?_ p hp⟩
    show [V.int (15 * 4096 + 0 * 256 + 0 * 16 + 0), V.int ((look ss u).getD 0)] = [V.int 61440, V.int ((look ss u).getD 0)]
    rw [show (15 * 4096 + 0 * 256 + 0 * 16 + 0 : Int) = 61440 by omega]
  | jump u =>
    refine iteF ?_
    refine ⟨_, rfl, a, _, _, _, rfl, rfl, ha1, h0, rfl, _, rfl, ?_⟩
    rw [show decide (V.str (Ro.jump u).verb = V.str "call") = false from by rw [str_dec]; exact sJump.2.2.2.2.1]
    refine iteF ?_
    refine ⟨_, rfl, a, _, _, _, rfl, rfl, ha1, h0, rfl, _, rfl, ?_⟩
    rw [show decide (V.str (Ro.jump u).verb = V.str "jump") = true from decide_eq_true rfl]
    refine iteT ?_
    cases lg with
    | true =>
      refine ⟨_, rfl, _, rfl, ?_⟩
      refine iteT ?_
      refine ⟨12, 0, 0, 0, rfl, _, rfl, ?_⟩
      refine ⟨(by show 2 ≤ sizeLine; decide), fun p hp => fin _ _ (Same.refl _) ?_ p hp⟩
      show [V.int (12 * 4096 + 0 * 256 + 0 * 16 + 0), V.int t] = [V.int 49152, V.int t]
      rw [show (12 * 4096 + 0 * 256 + 0 * 16 + 0 : Int) = 49152 by omega]
    | false =>
      refine ⟨_, rfl, _, rfl, ?_⟩
      refine iteF ?_
      refine ⟨_, rfl, _, rfl, _, _, rfl, rfl, _, _, rfl, rfl, 11, 0, 0, _, rfl, ?_⟩
      refine ⟨(by show 1 ≤ sizeLine; decide), fun p hp => fin _ _ (Same.refl _) ?_ p hp⟩
      show [V.int (11 * 4096 + 0 * 256 + 0 * 16 + (t - sp + 8))] = [V.int (45056 + (t - sp + 8))]
      rw [show (11 * 4096 + 0 * 256 + 0 * 16 + (t - sp + 8) : Int) = 45056 + (t - sp + 8) by omega]
  | nought b u =>
    refine iteF ?_
    refine ⟨_, rfl, a, _, _, _, rfl, rfl, ha1, h0, rfl, _, rfl, ?_⟩
    rw [show decide (V.str (Ro.nought b u).verb = V.str "call") = false from by rw [str_dec]; exact sNought.2.2.2.2]
    refine iteF ?_
    refine ⟨_, rfl, a, _, _, _, rfl, rfl, ha1, h0, rfl, _, rfl, ?_⟩
    rw [show decide (V.str (Ro.nought b u).verb = V.str "jump") = false from by rw [str_dec]; exact nJ]
    refine iteF ?_
    refine ⟨_, rfl, a, _, _, _, rfl, rfl, ha1, h0, rfl, _, rfl, ?_⟩
    rw [show decide (V.str (Ro.nought b u).verb = V.str "nought") = true from decide_eq_true rfl]
    refine iteT ?_
    have h1 := arg_at (i := 0) hx (by rfl : _ = some (PyData.int b))
    cases lg with
    | true =>
      refine ⟨_, rfl, _, rfl, ?_⟩
      refine iteT ?_
      refine ⟨_, rfl, a, _, _, _, rfl, rfl, ha1, h1, 14, b, 0, 0, rfl, _, rfl, ?_⟩
      refine ⟨(by show 2 ≤ sizeLine; decide), fun p hp => fin _ _ (Same.refl _) ?_ p hp⟩
      show [V.int (14 * 4096 + b * 256 + 0 * 16 + 0), V.int t] = [V.int (57344 + b * 256), V.int t]
      rw [show (14 * 4096 + b * 256 + 0 * 16 + 0 : Int) = 57344 + b * 256 by omega]
    | false =>
      refine ⟨_, rfl, _, rfl, ?_⟩
      refine iteF ?_
      refine ⟨_, rfl, a, _, _, _, rfl, rfl, ha1, h1, _, rfl, _, rfl, _, _, rfl, rfl, _, _, rfl, rfl, 13, b, 0, _, rfl, ?_⟩
      refine ⟨(by show 1 ≤ sizeLine; decide), fun p hp => fin _ _ (Same.refl _) ?_ p hp⟩
      show [V.int (13 * 4096 + b * 256 + 0 * 16 + (t - sp + 8))] = [V.int (53248 + b * 256 + (t - sp + 8))]
      rw [show (13 * 4096 + b * 256 + 0 * 16 + (t - sp + 8) : Int) = 53248 + b * 256 + (t - sp + 8) by omega]
  | num b m =>
    refine iteF ?_
    refine ⟨_, rfl, a, _, _, _, rfl, rfl, ha1, h0, rfl, _, rfl, ?_⟩
    rw [show decide (V.str (Ro.num b m).verb = V.str "call") = false from by rw [str_dec]; exact nN.1]
    refine iteF ?_
    refine ⟨_, rfl, a, _, _, _, rfl, rfl, ha1, h0, rfl, _, rfl, ?_⟩
    rw [show decide (V.str (Ro.num b m).verb = V.str "jump") = false from by rw [str_dec]; exact nN.2.1]
    refine iteF ?_
    refine ⟨_, rfl, a, _, _, _, rfl, rfl, ha1, h0, rfl, _, rfl, ?_⟩
    rw [show decide (V.str (Ro.num b m).verb = V.str "nought") = false from by rw [str_dec]; exact nN.2.2]
    refine iteF ?_
    refine ⟨_, rfl, a, _, _, _, rfl, rfl, ha1, h0, rfl, _, rfl, ?_⟩
    rw [show decide (V.str (Ro.num b m).verb = V.str "number") = true from decide_eq_true rfl]
    refine iteT ?_
    have h1 := arg_at (i := 0) hx (by rfl : _ = some (PyData.int b))
    have h2 := arg_at (i := 1) hx (by rfl : _ = some (PyData.int m))
    refine ⟨_, rfl, a, _, _, _, rfl, rfl, ha1, h1, 1, b, 0, 0, rfl, _, rfl, a, _, _, _, rfl, rfl, ha1, h2, ?_⟩
    refine ⟨(by show 2 ≤ sizeLine; decide), fun p hp => fin _ _ (Same.refl _) ?_ p hp⟩
    show [V.int (1 * 4096 + b * 256 + 0 * 16 + 0), V.int m] = [V.int (4096 + b * 256), V.int m]
    rw [show (1 * 4096 + b * 256 + 0 * 16 + 0 : Int) = 4096 + b * 256 by omega]
  | two q b c =>
    refine iteF ?_
    refine ⟨_, rfl, a, _, _, _, rfl, rfl, ha1, h0, rfl, _, rfl, ?_⟩
    rw [show decide (V.str (Ro.two q b c).verb = V.str "call") = false from by rw [str_dec]; exact (n2 q).1]
    refine iteF ?_
    refine ⟨_, rfl, a, _, _, _, rfl, rfl, ha1, h0, rfl, _, rfl, ?_⟩
    rw [show decide (V.str (Ro.two q b c).verb = V.str "jump") = false from by rw [str_dec]; exact (n2 q).2.1]
    refine iteF ?_
    refine ⟨_, rfl, a, _, _, _, rfl, rfl, ha1, h0, rfl, _, rfl, ?_⟩
    rw [show decide (V.str (Ro.two q b c).verb = V.str "nought") = false from by rw [str_dec]; exact (n2 q).2.2.1]
    refine iteF ?_
    refine ⟨_, rfl, a, _, _, _, rfl, rfl, ha1, h0, rfl, _, rfl, ?_⟩
    rw [show decide (V.str (Ro.two q b c).verb = V.str "number") = false from by rw [str_dec]; exact (n2 q).2.2.2]
    refine iteF ?_
    have h1 := arg_at (i := 0) hx (by rfl : _ = some (PyData.int b))
    have h2 := arg_at (i := 1) hx (by rfl : _ = some (PyData.int c))
    refine ⟨(by show 9 ≤ sizeLine; decide), fun pk hpk => ?_⟩
    have g2 := same_new hpk (.lst (kdL.map V.str))
    have epk : (upd H1 pk (.lst (kdL.map V.str))) pk = some (.lst (kdL.map V.str)) := upd_same
    have ha2 := seqT_same g2 ha1
    obtain ⟨i1, i2⟩ := idx_strs (L := kdL) (s := (Ro.two q b c).verb) (by show (Ro.two q 0 0).verb ∈ kdL; cases q <;> decide +kernel)
    have hxl : xs.length = 3 := dp_len hx
    refine ⟨_, rfl, .inl ⟨rfl, _, SqL.of epk⟩, _, rfl, a, _, _, _, rfl, rfl, ha2, h0, pk, _, _, _, _, rfl, rfl, SqL.of epk, rfl, rfl, i1, beq_self_eq_true _, i2, ?_⟩
    refine ⟨_, _, rfl, rfl, _, rfl, a, _, _, _, rfl, rfl, ha2, h1, _, rfl, a, _, _, _, rfl, rfl, ha2, h2, _, rfl, a, _, rfl, .inr ha2, _, _, rfl, rfl, _, rfl, ?_⟩
    rw [hxl]
    refine iteF ?_
    refine ⟨_, b, c, 0, rfl, ?_⟩
    refine ⟨(by show 1 ≤ sizeLine; decide), fun p hp => fin _ _ g2 ?_ p hp⟩
    cases q with
    | true =>
      show [V.int ((2 + 0) * 4096 + b * 256 + c * 16 + 0)] = [V.int (2 * 4096 + b * 256 + c * 16)]
      rw [Int.add_zero, Int.add_zero]
    | false =>
      show [V.int ((2 + 1) * 4096 + b * 256 + c * 16 + 0)] = [V.int (3 * 4096 + b * 256 + c * 16)]
      rw [Int.add_zero]
      rfl
  | op q b c d pl =>
    refine iteF ?_
    refine ⟨_, rfl, a, _, _, _, rfl, rfl, ha1, h0, rfl, _, rfl, ?_⟩
    rw [show decide (V.str (Ro.op q b c d pl).verb = V.str "call") = false from by rw [str_dec]; exact (nO q).1]
    refine iteF ?_
    refine ⟨_, rfl, a, _, _, _, rfl, rfl, ha1, h0, rfl, _, rfl, ?_⟩
    rw [show decide (V.str (Ro.op q b c d pl).verb = V.str "jump") = false from by rw [str_dec]; exact (nO q).2.1]
    refine iteF ?_
    refine ⟨_, rfl, a, _, _, _, rfl, rfl, ha1, h0, rfl, _, rfl, ?_⟩
    rw [show decide (V.str (Ro.op q b c d pl).verb = V.str "nought") = false from by rw [str_dec]; exact (nO q).2.2.1]
    refine iteF ?_
    refine ⟨_, rfl, a, _, _, _, rfl, rfl, ha1, h0, rfl, _, rfl, ?_⟩
    rw [show decide (V.str (Ro.op q b c d pl).verb = V.str "number") = false from by rw [str_dec]; exact (nO q).2.2.2.1]
    refine iteF ?_
    have h1 := arg_at (i := 0) hx (by rfl : _ = some (PyData.int b))
    have h2 := arg_at (i := 1) hx (by rfl : _ = some (PyData.int c))
    have h3 := arg_at (i := 2) hx (by rfl : _ = some (PyData.int d))
    refine ⟨(by show 9 ≤ sizeLine; decide), fun pk hpk => ?_⟩
    have g2 := same_new hpk (.lst (kdL.map V.str))
    have epk : (upd H1 pk (.lst (kdL.map V.str))) pk = some (.lst (kdL.map V.str)) := upd_same
    have ha2 := seqT_same g2 ha1
    obtain ⟨i1, i2⟩ := idx_strs (L := kdL) (s := opV q) (nO q).2.2.2.2.1
    have hxl : 3 < xs.length := by
      rw [dp_len hx]
      show 3 < (([.int b, .int c, .int d] ++ (match pl with | none => [] | some n => [PyData.int n]) : List PyData)).length + 1
      rw [List.length_append]
      simp only [List.length_cons]
      omega
    refine ⟨_, rfl, .inl ⟨rfl, _, SqL.of epk⟩, _, rfl, a, _, _, _, rfl, rfl, ha2, h0, pk, _, _, _, _, rfl, rfl, SqL.of epk, rfl, rfl, i1, beq_self_eq_true _, i2, ?_⟩
    refine ⟨_, _, rfl, rfl, _, rfl, a, _, _, _, rfl, rfl, ha2, h1, _, rfl, a, _, _, _, rfl, rfl, ha2, h2, _, rfl, a, _, rfl, .inr ha2, _, _, rfl, rfl, _, rfl, ?_⟩
    refine ifT (decide_eq_true (show (3 : Int) < (xs.length : Int) by omega)) ?_
    refine ⟨_, rfl, a, _, _, _, rfl, rfl, ha2, h3, ?_⟩
    refine ⟨_, b, c, d, rfl, ?_⟩
    refine ⟨(by show 1 ≤ sizeLine; decide), fun p hp => fin _ _ g2 ?_ p hp⟩
    show [V.int ((2 + ((kdL.idxOf (opV q) : Nat) : Int)) * 4096 + b * 256 + c * 16 + d)] = [V.int (((q.val : Int) + 4) * 4096 + b * 256 + c * 16 + d)]
    rw [(nO q).2.2.2.2.2, show ((2 + ((q.val + 2 : Nat) : Int)) : Int) = (q.val : Int) + 4 by omega]
end
end Lk

set_option Elab.async false
set_option linter.all false
set_option maxRecDepth 100000
set_option pp.maxSteps 2500
set_option maxHeartbeats 4000000
namespace Lk
open PySem PySem.Spec PyProof.Rows L2
def spLoaded (K : PySem.W.Frag) : Sp := fun vs H Q _ => ∃ (x : V) (n tk g : Int) (fs : List (Str × List Ro)), vs = [x] ∧ Dp K H x (linkedD n tk g fs) ∧ WF fs ∧
  ∀ z H', Same H H' → Dp K H' z (.tuple [imageD n tk g fs, backD (allE fs)]) → Q z H'
theorem seq_mid {t1 t2 : TS} {D : Ends} {σ : L2.St} {H : Hp} (I : L2.St → Hp → Prop) (hI : ∀ σ' H', I σ' H' → t2 D σ' H') (h : ∀ nx : L2.St → Hp → Prop, (∀ σ' H', I σ' H' → nx σ' H') → t1 { D with nx := nx } σ H) : tSeq t1 t2 D σ H := h _ hI
theorem next_go {D : Ends} {σ : L2.St} {H : Hp} (h : D.nx σ H) : tNext D σ H := h
theorem off_mut {K : PySem.W.Frag} {H : Hp} {p q : Addr} {o : HO} {ys xs : List V} {ds : List PyData} (h : DpAll K (del H q) xs ds) (hn : noLs ds = true) (hp : H p = some (.lst ys)) (ne : p ≠ q) : DpAll K (del (upd H p o) q) xs ds := by
  have q2 := dpAll_off (l := p) (ys := ys) (by rw [del_ne ne]; exact hp) hn h
  refine dpAll_same (fun b' o h => ?_) q2
  by_cases c1 : b' = p
  · subst c1; rw [del_same] at h; cases h
  · rw [del_ne c1] at h
    by_cases c2 : b' = q
    · subst c2; rw [del_same] at h; cases h
    · rw [del_ne c2] at h ⊢
      rw [upd_ne c1]; exact h
theorem cut_last {ys : List V} {z : V} : cutV (ys ++ [z]) none (some (-1)) = ys := by
  unfold cutV
  have e1 : HT.sIx (ys ++ [z]).length 0 none = 0 := by simp [HT.sIx]
  have e2 : HT.sIx (ys ++ [z]).length (ys ++ [z]).length (some (-1)) = ys.length := by
    simp only [HT.sIx, List.length_append, List.length_cons, List.length_nil]
    try split
    all_goals omega
  rw [e1, List.drop_zero, Nat.sub_zero, e2, List.take_left']
  rfl
theorem noLs_back (es : List Ent) : noLs (es.map Ent.back) = true := by
  induction es with
  | nil => rfl
  | cons e es ih => show (noL e.back && noLs (es.map Ent.back)) = true; rw [backD_noL, ih]; rfl
theorem least_mem (ts : List Th) (low high : Int) : ∀ (n : Nat) (cs : List Nat), cs.Nodup → (∀ i ∈ cs, i < ts.length) → (leastN ts low high n cs).Nodup ∧ ∀ i ∈ leastN ts low high n cs, i < ts.length ∧ (i ∈ cs ∨ ∃ cs', i ∈ farL cs' ts low high)
  | 0, cs, h1, h2 => ⟨h1, fun i m => ⟨h2 i m, .inl m⟩⟩
  | n + 1, cs, h1, h2 => by
    rw [leastN]
    cases e : farL cs ts low high with
    | nil => exact ⟨h1, fun i m => ⟨h2 i m, .inl m⟩⟩
    | cons f fr =>
      have nd : (cs ++ f :: fr).Nodup := by rw [← e]; exact List.nodup_append.mpr ⟨h1, farL_nodup .., fun a ma b mb q => (farL_mem mb).2 (q ▸ ma)⟩
      obtain ⟨a, b⟩ := least_mem ts low high n (cs ++ f :: fr) nd (by rw [← e]; exact fun i mi => (List.mem_append.mp mi).elim (h2 i) fun h => (farL_mem h).1)
      refine ⟨a, fun i m => ⟨(b i m).1, ?_⟩⟩
      rcases (b i m).2 with h | h
      · rcases List.mem_append.mp h with h | h
        · exact .inl h
        · exact .inr ⟨cs, by rw [e]; exact h⟩
      · exact .inr h
theorem csOf_mem (rs : List Ro) : ∀ k ∈ csOf rs, (rs.getD k (.plain true)).isJ = true ∧ k < rs.length := fun k m => by
  have := (least_mem (thsOf rs) (-8) 7 ((thsOf rs).length + 1) [] List.nodup_nil (fun _ m => nomatch m)).2 k m
  rw [ths_len] at this
  refine ⟨?_, this.1⟩
  rcases this.2 with h | ⟨cs', h⟩
  · cases h
  · exact far_isJ h
theorem csOf_len (rs : List Ro) : (csOf rs).length ≤ rs.length := by
  have := (least_mem (thsOf rs) (-8) 7 ((thsOf rs).length + 1) [] List.nodup_nil (fun _ m => nomatch m)).1
  exact few_nat this fun k m => (csOf_mem rs k m).2
theorem look_at {fs : List (Str × List Ro)} (W : WF fs) {j : Nat} (hj : j < fs.length) : look (startsOf fs) (Fns.at fs j).1 = some (baseAt fs j) := by
  have h : ∀ n, n ≤ fs.length → j < n → look (startsTo fs n) (Fns.at fs j).1 = some (baseAt fs j) := by
    intro n
    induction n with
    | zero => intro _ h; omega
    | succ n ih =>
      intro hn hj2
      rw [startsTo_succ]
      unfold look at ih ⊢
      rw [List.find?_append]
      by_cases c : j = n
      · subst c
        rw [List.find?_eq_none.mpr]
        · simp
        · intro p m
          obtain ⟨i, hi, rfl⟩ := List.mem_map.mp m
          have := List.mem_range.mp hi
          simpa using titles_ne W (by omega) hj (by omega)
      · have h2 := ih (by omega) (by omega)
        cases hh : (startsTo fs n).find? (fun p => p.1 == (Fns.at fs j).1) with
        | none => rw [hh] at h2; cases h2
        | some q => rw [hh] at h2; exact h2
  exact h fs.length (Nat.le_refl _) hj
theorem Ro.lastB {r : Ro} (h : r.isJ = true) : ∃ (t : Nat) (ds : List PyData), (PyData.str r.verb :: r.args) = ds ++ [.int t] ∧ (∀ u, r.back u = .tuple (ds ++ [.int u])) ∧ (∀ f ss, r.to f ss = f t) ∧ ∀ n ts, r.fit n ts → t ≤ n := by
  cases r with
  | jump t => exact ⟨t, [_], rfl, fun _ => rfl, fun _ _ => rfl, fun _ _ h => h⟩
  | nought b t => exact ⟨t, [_, _], rfl, fun _ => rfl, fun _ _ => rfl, fun _ _ h => h.2⟩
  | _ => cases h
theorem dp_lastI2 {K : PySem.W.Frag} {H : Hp} {d : PyData} : ∀ {ds : List PyData} {xs : List V}, DpAll K H xs (ds ++ [d]) → ∃ ys z, xs = ys ++ [z] ∧ DpAll K H ys ds ∧ Dp K H z d
  | [], xs, h => by
    cases h with
    | cons h t => cases t; exact ⟨[], _, rfl, .nil, h⟩
  | _ :: ds, xs, h => by
    cases h with
    | cons h t =>
      obtain ⟨ys, z, rfl, hy, hz⟩ := dp_lastI2 t
      exact ⟨_ :: ys, z, rfl, .cons h hy, hz⟩
def Ro.hasP : Ro → Bool
  | .op _ _ _ _ pl => pl.isSome
  | _ => false
theorem strsR : ((("beat" : Str) == "div" || ("beat" : Str) == "rem") = false) ∧ ((("back" : Str) == "div" || ("back" : Str) == "rem") = false) ∧ ((("number" : Str) == "div" || ("number" : Str) == "rem") = false) ∧ ((("move" : Str) == "div" || ("move" : Str) == "rem") = false) ∧ ((("swap" : Str) == "div" || ("swap" : Str) == "rem") = false) ∧ ((("call" : Str) == "div" || ("call" : Str) == "rem") = false) ∧ ((("jump" : Str) == "div" || ("jump" : Str) == "rem") = false) ∧ ((("nought" : Str) == "div" || ("nought" : Str) == "rem") = false) := by decide +kernel
theorem opV_R : ∀ k : Fin 7, (opV k == "div" || opV k == "rem") = (k == 3 || k == 4) := by decide +kernel
theorem cellV_R : ∀ k : Fin 3, (cellV k == "div" || cellV k == "rem") = false := by decide +kernel
theorem verb_R {r : Ro} {n : Nat} {ts : List Str} (hf : r.fit n ts) : (r.verb == "div" || r.verb == "rem") = r.hasP := by
  obtain ⟨h1, h2, h3, h4, h5, h6, h7, h8⟩ := strsR
  cases r with
  | plain k => cases k; exact h2; exact h1
  | cell k c => exact cellV_R k
  | num b n => exact h3
  | two k b c => cases k; exact h5; exact h4
  | op k b c d pl =>
    have h : pl.isSome = true ↔ (k = 3 ∨ k = 4) := hf.2.2.2.1
    refine (opV_R k).trans ?_
    show (k == 3 || k == 4) = pl.isSome
    cases hh : pl.isSome with
    | true => rcases h.mp hh with rfl | rfl <;> rfl
    | false =>
      rw [hh] at h
      have n3 : k ≠ 3 := fun z => absurd (h.mpr (.inl z)) Bool.false_ne_true
      have n4 : k ≠ 4 := fun z => absurd (h.mpr (.inr z)) Bool.false_ne_true
      simp [n3, n4]
  | call t pl => exact h6
  | jump t => exact h7
  | nought b t => exact h8
theorem back_hasP {r : Ro} (h : r.hasP = true) : ∃ (L : List PyData) (d : PyData), (PyData.str r.verb :: r.args) = L ++ [d] ∧ L.length = 4 ∧ ∀ u, r.back u = .tuple L := by
  cases r with
  | op k b c d pl =>
    cases pl with
    | none => cases h
    | some n => exact ⟨[_, _, _, _], _, rfl, rfl, fun _ => rfl⟩
  | _ => cases h
theorem back_noP {r : Ro} (h : r.hasP = false) (hJ : r.isJ = false) (hC : r.isC = false) (u : Int) : r.back u = .tuple (PyData.str r.verb :: r.args) := by
  cases r with
  | op k b c d pl =>
    cases pl with
    | none => rfl
    | some n => cases h
  | call t pl => cases hC
  | jump t => cases hJ
  | nought c t => cases hJ
  | _ => rfl
section
variable {P : Program} {w : World} {K : PySem.W.Frag} {mg : Str → Option Value} {base : Heap}
theorem ok_loaded (T : Txt K mg) : FnOk P w K mg base CX0 4 T.f__law_loaded T.d__law_loaded ["_law_linked_here"] (spLoaded K) := by
  have nd := sc__law_loaded.nd
  refine T.F__law_loaded.ok sc__law_loaded (fun vs H Q E h => ?_) (fun cdv A outer s H vs Q E hr h => ?_)
  · obtain ⟨x, _, _, _, _, rfl, _⟩ := h
    rfl
  obtain ⟨x, n, tk, g, fs, rfl, hd, W, k⟩ := h
  have G__law_far : FnOk P w K mg base CX0 3 _ _ _ (spLFar K) := ok_lfar T
  have hr__law_far := hr
  have G__law_spots : FnOk P w K mg base CX0 2 _ _ _ (spSpots K) := ok_spots T
  have hr__law_spots := hr.mono (show 2 ≤ 3 by omega)
  have G__law_worded : FnOk P w K mg base CX0 2 _ _ _ (spWorded K) := ok_worded T
  have hr__law_worded := hr.mono (show 2 ≤ 3 by omega)
  refine ⟨_, (pss_cons (ps_asg (pv 0) (pg_tup rfl (pgs_cons (pg_name (i := 1) nd rfl (Or.inl rfl)) (pgs_cons (pg_name (i := 2) nd rfl (Or.inl rfl)) (pgs_cons (pg_name (i := 3) nd rfl (Or.inl rfl)) (pgs_cons (pg_name (i := 4) nd rfl (Or.inl rfl)) pgs_nil))))))
      (pss_cons (ps_par3 (i := 5) (j := 6) (l := 7) rfl nd rfl rfl rfl (by decide) (by decide) (by decide) rfl rfl rfl (pa_cons pe_dnewK (pa_cons pe_int (pa_cons pe_dnewK pa_nil))) (by rfl))
      (pss_cons (ps_for PassesOwn.never rfl (pi_tup (pv 4)) (pg_tup rfl (pgs_cons (pg_name (i := 8) nd rfl (Or.inl rfl)) (pgs_cons (pg_name (i := 9) nd rfl (Or.inl rfl)) (pgs_cons (pg_name (i := 10) nd rfl (Or.inl rfl)) pgs_nil))))
      (pss_cons (ps_asg (pe_tup (pa_cons (pv 6) (pa_cons (pe_call G__law_far hr__law_far rfl T.m__law_far T.k__law_far T.b__law_far .nil pass0 (pa_cons (pv 10) pa_nil)) pa_nil))) (pg_tup rfl (pgs_cons (pg_sub (pv 5) (pv 8) (set_dict (hu1 hr))) (pgs_cons (pg_sub (pv 7) (pv 8) (set_dict (hu1 hr))) pgs_nil))))
      (pss_one (ps_set (i := 6) nd rfl (Or.inl rfl) (pe_ix ix_list (pe_call G__law_spots hr__law_spots rfl T.m__law_spots T.k__law_spots T.b__law_spots .nil pass0 (pa_cons (pv 10) (pa_cons (pv 6) (pa_cons (pe_dget (hu1 hr) (pv 7) (pv 8) (fun _ _ => rfl)) pa_nil)))) (pe_un un_neg pe_int) (fun _ _ => rfl))))))
      (pss_cons (ps_par3 (i := 11) (j := 12) (l := 13) rfl nd rfl rfl rfl (by decide) (by decide) (by decide) rfl rfl rfl (pa_cons (pe_lst pa_nil) (pa_cons (pe_lst pa_nil) (pa_cons (pe_lst pa_nil) pa_nil))) (by rfl))
      (pss_cons (ps_for PassesOwn.never rfl (pi_tup (pv 4)) (pg_tup rfl (pgs_cons (pg_name (i := 8) nd rfl (Or.inl rfl)) (pgs_cons (pg_name (i := 9) nd rfl (Or.inl rfl)) (pgs_cons (pg_name (i := 10) nd rfl (Or.inl rfl)) pgs_nil))))
      (pss_cons (ps_set (i := 14) nd rfl (Or.inl rfl) (pe_call G__law_spots hr__law_spots rfl T.m__law_spots T.k__law_spots T.b__law_spots .nil pass0 (pa_cons (pv 10) (pa_cons (pe_dget (hu1 hr) (pv 5) (pv 8) (fun _ _ => rfl)) (pa_cons (pe_dget (hu1 hr) (pv 7) (pv 8) (fun _ _ => rfl)) pa_nil)))))
      (pss_one (ps_for PassesOwn.never rfl (pi_range1 (by rfl) T.z_range (pa_cons (pe_callB call_len_seq (by rfl) T.z_len PySem.boot_len (pa_cons (pv 10) pa_nil)) pa_nil)) (pg_name (i := 15) nd rfl (Or.inl rfl))
      (pss_cons (ps_par3 (i := 16) (j := 17) (l := 18) rfl nd rfl rfl rfl (by decide) (by decide) (by decide) rfl rfl rfl (pa_cons (pe_ix ix_tup (pv 10) (pv 15) (fun _ _ => rfl)) (pa_cons (pe_ix ix_list (pv 14) (pv 15) (fun _ _ => rfl)) (pa_cons pe_int pa_nil))) (by rfl))
      (pss_cons (ps_if (pt_cmpR op_in_seq (pe_ix ix_tup (pv 16) pe_int (fun _ _ => rfl)) (pe_tup (pa_cons pe_str (pa_cons pe_str (pa_cons pe_str pa_nil)))) (by rfl)) (pss_one (ps_expr (pe_bm PySem.F.plainAttrs_list PySem.F.slot_list_append PySem.F.type_list_append mt_append (pv 12) (pa_cons (pe_tup (pa_cons (pv 17) (pa_cons (pv 8) (pa_cons (pe_ix ix_tup (pv 16) (pe_un un_neg pe_int) (fun _ _ => rfl)) pa_nil)))) pa_nil)))) pss_nil)
      (pss_cons (ps_if (pt_cmpR op_in_seq (pe_ix ix_tup (pv 16) pe_int (fun _ _ => rfl)) (pe_tup (pa_cons pe_str (pa_cons pe_str pa_nil))) (by rfl)) (pss_cons (ps_set (i := 18) nd rfl (Or.inl rfl) (pe_ix ix_list (pv 14) (pe_ix ix_tup (pv 16) (pe_un un_neg pe_int) (fun _ _ => rfl)) (fun _ _ => rfl)))
      (pss_one (ps_expr (pe_bm PySem.F.plainAttrs_list PySem.F.slot_list_append PySem.F.type_list_append mt_append (pv 13) (pa_cons (pe_tup (pa_cons (pv 17) (pa_cons (pe_op op_catS (pe_slice sl_tupS (pv 16) po_none (po_some (pe_un un_neg pe_int))) (pe_tup (pa_cons (pv 18) pa_nil))) pa_nil))) pa_nil))))) (pss_one (ps_if (pt_cmpR op_eq (pe_ix ix_tup (pv 16) pe_int (fun _ _ => rfl)) pe_str (nomark _)) (pss_one (ps_expr (pe_bm PySem.F.plainAttrs_list PySem.F.slot_list_append PySem.F.type_list_append mt_append (pv 13) (pa_cons (pe_tup (pa_cons (pv 17) (pa_cons (pe_tup (pa_cons pe_str (pa_cons (pe_dget (hu1 hr) (pv 5) (pe_ix ix_tup (pv 16) pe_int (fun _ _ => rfl)) (fun _ _ => rfl)) pa_nil))) pa_nil))) pa_nil)))) (pss_one (ps_expr (pe_bm PySem.F.plainAttrs_list PySem.F.slot_list_append PySem.F.type_list_append mt_append (pv 13) (pa_cons (pe_tup (pa_cons (pv 17) (pa_cons (pe_ifExp (pt_cmpR op_in_seq (pe_ix ix_tup (pv 16) pe_int (fun _ _ => rfl)) (pe_tup (pa_cons pe_str (pa_cons pe_str pa_nil))) (by rfl)) (pe_slice sl_tupS (pv 16) po_none (po_some pe_int)) (pv 16)) pa_nil))) pa_nil)))))))
      (pss_one (ps_set (i := 11) nd rfl (Or.inl rfl) (pe_op op_cat (pv 11) (pe_call G__law_worded hr__law_worded rfl T.m__law_worded T.k__law_worded T.b__law_worded .nil pass0 (pa_cons (pv 16) (pa_cons (pv 17) (pa_cons (pv 18) (pa_cons (pe_cmpR op_in_seq (pv 15) (pe_dget (hu1 hr) (pv 7) (pv 8) (fun _ _ => rfl)) (by rfl)) (pa_cons (pv 5) pa_nil))))))))))))))))
      (pss_one (ps_ret (pe_tup (pa_cons (pe_tup (pa_cons (pe_callTy call_tuple_of (by rfl) T.z_tuple (by decide +kernel) (pa_cons (pv 11) pa_nil)) (pa_cons (pe_dget (hu1 hr) (pv 5) pe_str (fun _ _ => rfl)) (pa_cons (pv 1) (pa_cons (pv 2) (pa_cons (pv 3) (pa_cons (pe_callTy call_tuple_of (by rfl) T.z_tuple (by decide +kernel) (pa_cons (pv 12) pa_nil)) pa_nil))))))) (pa_cons (pe_callTy call_tuple_of (by rfl) T.z_tuple (by decide +kernel) (pa_cons (pv 13) pa_nil)) pa_nil)))))))))), ?_⟩
  obtain ⟨a, xs, rfl, ha, hx⟩ := tup_inv hd
  obtain ⟨x4, rfl, hx4⟩ : ∃ x4, xs = [.int n, .int tk, .int g, x4] ∧ Dp K H x4 (.tuple (fs.map fnD)) := by
    cases hx with
    | cons a1 r1 => cases r1 with
      | cons a2 r2 => cases r2 with
        | cons a3 r3 => cases r3 with
          | cons a4 r4 =>
            cases r4
            cases a1; cases a2; cases a3
            exact ⟨_, rfl, a4⟩
  obtain ⟨fa, fxs, rfl, hfa, hfx⟩ := tup_inv hx4
  have fl : fxs.length = fs.length := by rw [dp_len hfx, List.length_map]
  refine ⟨_, rfl, a, _, rfl, ha, rfl, _, _, rfl, _, _, rfl, _, _, rfl, _, _, rfl, rfl, ?_⟩
  refine fun S hS => ?_
  have e1 := same_new hS (.dK [])
  refine fun D hD => ?_
  have e2 := e1.trans (same_new hD (.dK []))
  have hD0 := none_of e1 hD
  have nSD : S ≠ D := fun z => by rw [← z, upd_same] at hD; cases hD
  refine ⟨_, _, _, rfl, ?_⟩
  refine ⟨_, rfl, fa, rfl, ⟨_, seqT_same e2 hfa⟩, ?_⟩
  refine for_tup (K := K) (a := fa) (xs := fxs) (fun j σ H' => ∃ (o8 o9 o10 : Option V) (kv : List (Key × V)), σ = [some (.ref a), some (.int n), some (.int tk), some (.int g), some (.ref fa), some (.ref S), some (.int (baseAt fs j)), some (.ref D), o8, o9, o10, none, none, none, none, none, none, none, none] ∧
    Same H H' ∧ H' S = some (.dK (sk (startsTo fs j))) ∧ H' D = some (.dK kv) ∧ kv.length = j ∧ (∀ i, i < j → ∃ p, valV kv (Sum.inr (Fns.at fs i).1) = some (.ref p) ∧ H' p = some (.lst (nV (csOf (Fns.at fs i).2)))) ∧ (∀ i, j ≤ i → i < fs.length → valV kv (Sum.inr (Fns.at fs i).1) = none)) ?_ ?_ ?_ ?_
  · exact ⟨none, none, none, [], rfl, e2, by rw [upd_ne nSD, upd_same]; rfl, upd_same, rfl, fun i hi => (by omega), fun _ _ _ => rfl⟩
  · rintro j σ H' _ ⟨_, _, _, _, _, e, _⟩
    exact seqT_same e hfa
  · rintro j z σ H' hjz ⟨o8, o9, o10, kv, rfl, e, eS, eD, kl, kin, kout⟩
    have hj : j < fs.length := by have := (List.getElem?_eq_some_iff.mp hjz).1; omega
    obtain ⟨d, _, ed, hzd⟩ := dp_get hfx hjz
    rw [List.getElem?_map, Fns.at_eq hj] at ed
    obtain rfl : fnD (Fns.at fs j) = d := Option.some.inj ed
    have hF := Fns.at_mem hj
    have hlen := W.len _ hF
    have hfit := W.fit _ hF
    obtain ⟨za, zs, rfl, hza, hzs⟩ := tup_inv hzd
    obtain ⟨xr, rfl, hxr⟩ : ∃ xr, zs = [.str (Fns.at fs j).1, .int 0, xr] ∧ Dp K H xr (rowsD (Fns.at fs j).2) := by
      cases hzs with
      | cons a1 r1 => cases r1 with
        | cons a2 r2 => cases r2 with
          | cons a3 r3 =>
            cases r3
            cases a1; cases a2
            exact ⟨_, rfl, a3⟩
    refine ⟨za, _, rfl, seqT_same e hza, rfl, _, _, rfl, _, _, rfl, _, _, rfl, rfl, ?_⟩
    have hv0 : valV (sk (startsTo fs j)) (Sum.inr (Fns.at fs j).1) = none := by
      rw [sk_val, look_none fun p m => ?_]
      · rfl
      · obtain ⟨i, hi, rfl⟩ := List.mem_map.mp m
        have := List.mem_range.mp hi
        exact titles_ne W (by omega) hj (by omega)
    refine ⟨_, rfl, _, rfl, xr, (Fns.at fs j).2, rfl, dp_same e hxr, hlen, good_ths hfit, fun pr H2 g2 hpr epr => ?_⟩
    refine ⟨(by show 2 ≤ sizeLine; decide), fun tp htp => ?_⟩
    have g3 := g2.trans (same_new htp (.tup [.int (baseAt fs j), .ref pr]))
    have epr3 := same_new htp (.tup [.int (baseAt fs j), .ref pr]) _ _ epr
    have hpr0 : H pr = none := none_of e hpr
    have etp : SqT K (upd H2 tp (.tup [.int (baseAt fs j), .ref pr])) tp [.int (baseAt fs j), .ref pr] := SqT.of upd_same
    generalize upd H2 tp (.tup [.int (baseAt fs j), .ref pr]) = H3 at g3 epr3 etp ⊢
    refine ⟨tp, _, rfl, etp, rfl, _, _, rfl, _, rfl, _, rfl, S, _, rfl, DPut.k (k := Sum.inr (Fns.at fs j).1) (g3 _ _ eS) ?_, ?_⟩
    · unfold sk startsTo
      rw [List.length_map, List.length_map, List.length_range]
      exact szl (by have := W.few; omega)
    rw [putK_new _ hv0]
    have eS1 : sk (startsTo fs j) ++ [((Sum.inr (Fns.at fs j).1 : Key), V.int (baseAt fs j))] = sk (startsTo fs (j + 1)) := by
      rw [startsTo_succ]; unfold sk; rw [List.map_append]; rfl
    rw [eS1]
    have f1 : Same H (upd H3 S (.dK (sk (startsTo fs (j + 1))))) := same_mut (e.trans g3) hS
    have fS : (upd H3 S (.dK (sk (startsTo fs (j + 1))))) S = some (.dK (sk (startsTo fs (j + 1)))) := upd_same
    have fD : (upd H3 S (.dK (sk (startsTo fs (j + 1))))) D = some (.dK kv) := by rw [upd_ne (Ne.symm nSD)]; exact g3 _ _ eD
    have nRD : pr ≠ D := fun q => by rw [q, eD] at hpr; cases hpr
    have nRS : pr ≠ S := fun q => by rw [q, eS] at hpr; cases hpr
    have fR : (upd H3 S (.dK (sk (startsTo fs (j + 1))))) pr = some (.lst (nV (csOf (Fns.at fs j).2))) := by rw [upd_ne nRS]; exact epr3
    have fin : ∀ i, i < j → ∃ p, valV kv (Sum.inr (Fns.at fs i).1) = some (.ref p) ∧ (upd H3 S (.dK (sk (startsTo fs (j + 1))))) p = some (.lst (nV (csOf (Fns.at fs i).2))) := fun i hi => by
      obtain ⟨p, h1, h2⟩ := kin i hi
      exact ⟨p, h1, by rw [upd_ne (fun q => by rw [q, eS] at h2; cases h2)]; exact g3 _ _ h2⟩
    generalize upd H3 S (.dK (sk (startsTo fs (j + 1)))) = H4 at f1 fS fD fR fin ⊢
    refine ⟨_, _, rfl, _, rfl, _, rfl, D, _, rfl, DPut.k (k := Sum.inr (Fns.at fs j).1) fD (by rw [kl]; exact szl (by have := W.few; omega)), rfl, ?_⟩
    have eH5 : ∀ (b : Addr) (o : HO), b ≠ D → H4 b = some o → (upd H4 D (.dK (putK kv (Sum.inr (Fns.at fs j).1) (V.ref pr)))) b = some o := fun b o hb h => by rw [upd_ne hb]; exact h
    have f5 : Same H (upd H4 D (.dK (putK kv (Sum.inr (Fns.at fs j).1) (V.ref pr)))) := same_mut f1 hD0
    have f5S := eH5 S _ nSD fS
    have f5R := eH5 pr _ nRD fR
    have f5D : (upd H4 D (.dK (putK kv (Sum.inr (Fns.at fs j).1) (V.ref pr)))) D = some (.dK (putK kv (Sum.inr (Fns.at fs j).1) (V.ref pr))) := upd_same
    have fin5 : ∀ i, i < j → ∃ p, valV kv (Sum.inr (Fns.at fs i).1) = some (.ref p) ∧ (upd H4 D (.dK (putK kv (Sum.inr (Fns.at fs j).1) (V.ref pr)))) p = some (.lst (nV (csOf (Fns.at fs i).2))) := fun i hi => by
      obtain ⟨p, h1, h2⟩ := fin i hi
      exact ⟨p, h1, eH5 p _ (fun q => by rw [q, fD] at h2; cases h2) h2⟩
    generalize upd H4 D (.dK (putK kv (Sum.inr (Fns.at fs j).1) (V.ref pr))) = H5 at f5 f5S f5R f5D fin5 ⊢
    have gD : DGet H5 D (.str (Fns.at fs j).1) (some (.ref pr)) := by
      refine .inl ⟨_, Sum.inr (Fns.at fs j).1, .inl f5D, rfl, ?_⟩
      rw [valV_put, if_pos rfl]
    refine ⟨_, rfl, _, rfl, _, rfl, _, rfl, D, _, rfl, gD, ?_⟩
    have hcs : ∀ k ∈ csOf (Fns.at fs j).2, ((Fns.at fs j).2.getD k (.plain true)).isJ = true ∧ k < (Fns.at fs j).2.length := csOf_mem _
    refine ⟨xr, baseAt fs j, pr, (Fns.at fs j).2, csOf (Fns.at fs j).2, rfl, dp_same f5 hxr, SqL.of f5R, hlen, Nat.le_trans (csOf_len _) hlen, fun k m => (hcs k m).1, fun R H6 g6 hR eR => ?_⟩
    have last : atI (iV (spotsOf (baseAt fs j) (csOf (Fns.at fs j).2) (Fns.at fs j).2)) (-1) = some (V.int (baseAt fs (j + 1))) := by
      have e1 : spotsOf (baseAt fs j) (csOf (Fns.at fs j).2) (Fns.at fs j).2 = (List.range (Fns.at fs j).2.length).map (fun k => baseAt fs j + adr (Fns.at fs j).2 k) ++ [baseAt fs (j + 1)] := by
        unfold spotsOf addrs addrsTo
        rw [ths_len, List.range_succ, List.map_append, List.map_append, List.map_map]
        rfl
      rw [e1, iV_app2]
      exact atI_last _ _
    refine ⟨1, rfl, R, _, _, _, rfl, rfl, SqL.of eR, last, ?_⟩
    refine ⟨_, _, _, _, rfl, f5.trans g6, g6 _ _ f5S, g6 _ _ f5D, ?_, ?_, ?_⟩
    · rw [putK_new _ (kout j (Nat.le_refl _) hj), List.length_append, kl]; rfl
    · intro i hi
      by_cases c : i = j
      · subst c
        exact ⟨pr, by rw [valV_put, if_pos rfl], g6 _ _ f5R⟩
      · obtain ⟨p, h1, h2⟩ := fin5 i (by omega)
        refine ⟨p, ?_, g6 _ _ h2⟩
        rw [valV_put, if_neg (fun q => titles_ne W (by omega) hj c (Sum.inr.inj q))]
        exact h1
    · intro i hi1 hi2
      rw [valV_put, if_neg (fun q => titles_ne W hi2 hj (by omega) (Sum.inr.inj q))]
      exact kout i (by omega) hi2
  · rintro σ G ⟨o8, o9, o10, kv, rfl, e, eS, eD, kl, kin, _⟩
    rw [fl] at eS kin
    refine ⟨(by show 0 ≤ sizeLine; decide), fun pw hpw => ?_⟩
    have u1 := same_new hpw (.lst [])
    refine ⟨(by show 0 ≤ sizeLine; decide), fun pp hpp => ?_⟩
    have u2 := u1.trans (same_new hpp (.lst []))
    have hpp0 := none_of u1 hpp
    refine ⟨(by show 0 ≤ sizeLine; decide), fun pf hpf => ⟨_, _, _, rfl, ?_⟩⟩
    have u3 := u2.trans (same_new hpf (.lst []))
    have hpf0 := none_of u2 hpf
    have npw : pw ≠ pp := fun q => by rw [← q, upd_same] at hpp; cases hpp
    have npf : pp ≠ pf := fun q => by rw [← q, upd_same] at hpf; cases hpf
    have nwf : pw ≠ pf := fun q => by rw [← q, upd_ne npw, upd_same] at hpf; cases hpf
    have bx : ∀ j, j ≤ fs.length → (wordsE (allTo fs j)).length ≤ 40000 := fun j hj => by
      have a1 := wordsE_le (allTo fs j)
      have a2 := allTo_le W j hj
      have := W.few
      omega
    have ba : ∀ j, j ≤ fs.length → (allTo fs j).length ≤ 20000 := fun j hj => by
      have a2 := allTo_le W j hj
      have := W.few
      omega
    have bp : ∀ j, j ≤ fs.length → (placesAll fs j).length ≤ 20000 := fun j hj => by
      have a2 := placesAll_le W j hj
      have := W.few
      omega
    have hlk : ∀ t ∈ fs.map (·.1), (look (startsOf fs) t).isSome = true := fun t m => look_some (by rw [starts_titles]; exact m)
    refine ⟨_, rfl, fa, rfl, ⟨_, seqT_same (e.trans u3) hfa⟩, ?_⟩
    refine for_tup (K := K) (a := fa) (xs := fxs) (fun j σ H' => ∃ (o8 o9 o10 o14 o15 o16 o17 o18 : Option V) (qw : Addr) (acc acf : List V), σ = [some (.ref a), some (.int n), some (.int tk), some (.int g), some (.ref fa), some (.ref S), some (.int (baseAt fs fxs.length)), some (.ref D), o8, o9, o10, some (.ref qw), some (.ref pp), some (.ref pf), o14, o15, o16, o17, o18] ∧ (qw ≠ pp ∧ qw ≠ pf) ∧
      Same G H' ∧ H' qw = some (.lst (iV (wordsE (allTo fs j)))) ∧ H' pp = some (.lst acc) ∧ H' pf = some (.lst acf) ∧ DpAll K (del H' pp) acc (placesAll fs j) ∧ DpAll K (del H' pf) acf ((allTo fs j).map Ent.back)) ?_ ?_ ?_ ?_
    · exact ⟨o8, o9, o10, none, none, none, none, none, pw, [], [], rfl, ⟨npw, nwf⟩, u3, by rw [upd_ne nwf, upd_ne npw, upd_same]; rfl, by rw [upd_ne npf, upd_same], upd_same, .nil, .nil⟩
    · rintro j σ H' _ ⟨_, _, _, _, _, _, _, _, _, _, _, _, _, e', _⟩
      exact seqT_same (e.trans e') hfa
    · rintro j z σ H' hjz ⟨o8, o9, o10, o14, o15, o16, o17, o18, qw, acc, acf, rfl, hq2, e', ew, ep, ef, hacc, hacf⟩
      have hj : j < fs.length := by have := (List.getElem?_eq_some_iff.mp hjz).1; omega
      obtain ⟨d, _, ed, hzd⟩ := dp_get hfx hjz
      rw [List.getElem?_map, Fns.at_eq hj] at ed
      obtain rfl : fnD (Fns.at fs j) = d := Option.some.inj ed
      have hF := Fns.at_mem hj
      have hlen := W.len _ hF
      have hfit := W.fit _ hF
      obtain ⟨za, zs, rfl, hza, hzs⟩ := tup_inv hzd
      obtain ⟨xr, rfl, hxr⟩ : ∃ xr, zs = [.str (Fns.at fs j).1, .int 0, xr] ∧ Dp K H xr (rowsD (Fns.at fs j).2) := by
        cases hzs with
        | cons a1 r1 => cases r1 with
          | cons a2 r2 => cases r2 with
            | cons a3 r3 =>
              cases r3
              cases a1; cases a2
              exact ⟨_, rfl, a3⟩
      obtain ⟨hp, hv1, hv2⟩ := kin j hj
      obtain ⟨ra, rxs, rfl, hra, hrx⟩ := tup_inv hxr
      have rl : rxs.length = (Fns.at fs j).2.length := by rw [dp_len hrx, List.length_map]
      refine ⟨za, _, rfl, seqT_same (e.trans e') hza, rfl, _, _, rfl, _, _, rfl, _, _, rfl, rfl, ?_⟩
      have gDD : ∀ H4, Same G H4 → DGet H4 D (.str (Fns.at fs j).1) (some (.ref hp)) := fun H4 g4 => .inl ⟨_, Sum.inr (Fns.at fs j).1, .inl (g4 _ _ eD), rfl, hv1.symm ▸ rfl⟩
      have lkj : look (startsOf fs) (Fns.at fs j).1 = some (baseAt fs j) := look_at W hj
      have gSS : DGet H' S (.str (Fns.at fs j).1) (some (.int (baseAt fs j))) := by
        refine .inl ⟨_, Sum.inr (Fns.at fs j).1, .inl (e' _ _ eS), rfl, ?_⟩
        show _ = valV (sk (startsOf fs)) (Sum.inr (Fns.at fs j).1)
        rw [sk_val, lkj]; rfl
      have hcs : ∀ k ∈ csOf (Fns.at fs j).2, ((Fns.at fs j).2.getD k (.plain true)).isJ = true ∧ k < (Fns.at fs j).2.length := csOf_mem _
      generalize hb : baseAt fs j = b at *
      generalize hrs : (Fns.at fs j).2 = rs at *
      generalize htt : (Fns.at fs j).1 = tt at *
      refine ⟨_, rfl, _, rfl, _, rfl, S, _, rfl, gSS, _, rfl, _, rfl, D, _, rfl, gDD _ e', ?_⟩
      refine ⟨.ref ra, b, hp, rs, csOf rs, rfl, dp_same (e.trans e') hxr, SqL.of (e' _ _ hv2), hlen, Nat.le_trans (csOf_len _) hlen, fun k m => (hcs k m).1, fun ps H6 g6 hps eps => ?_⟩
      have eps' : H6 ps = some (.lst (iV (asOf b rs))) := eps
      have npp : ps ≠ pp := fun q => by rw [q, ep] at hps; cases hps
      have nsf : ps ≠ pf := fun q => by rw [q, ef] at hps; cases hps
      have e6 := e'.trans g6
      refine ⟨_, rfl, ra, _, rfl, .inr (seqT_same (e.trans e6) hra), (rxs.length : Int), rfl, by omega, by omega, ?_⟩
      have pt : ∀ n, placesTo fs j (n + 1) = placesTo fs j n ++ (rs.getD n (.plain true)).place tt (b + adr rs n) := fun n => by rw [placesTo_succ, hb, hrs, htt]
      have ptl := placesTo_le fs j
      have hasl := asOf_len b rs
      refine for_range (lo := 0) (n := (rxs.length : Int).toNat) (fun i σ H' => ∃ (o15 o16 o17 o18 : Option V) (qw : Addr) (acc acf : List V), σ = [some (.ref a), some (.int n), some (.int tk), some (.int g), some (.ref fa), some (.ref S), some (.int (baseAt fs fxs.length)), some (.ref D), some (.str tt), some (.int 0), some (.ref ra), some (.ref qw), some (.ref pp), some (.ref pf), some (.ref ps), o15, o16, o17, o18] ∧ (qw ≠ pp ∧ qw ≠ pf) ∧
        Same G H' ∧ H' ps = some (.lst (iV (asOf b rs))) ∧ H' qw = some (.lst (iV (wordsE (allTo fs j ++ entsTo b (startsOf fs) rs i)))) ∧ H' pp = some (.lst acc) ∧ H' pf = some (.lst acf) ∧ DpAll K (del H' pp) acc (placesAll fs j ++ placesTo fs j i) ∧ DpAll K (del H' pf) acf ((allTo fs j ++ entsTo b (startsOf fs) rs i).map Ent.back)) ?_ ?_ ?_
      · refine ⟨_, _, _, _, qw, acc, acf, rfl, hq2, e6, eps', ?_, g6 _ _ ep, g6 _ _ ef, ?_, ?_⟩
        · rw [show entsTo b (startsOf fs) rs 0 = [] from rfl, List.append_nil]; exact g6 _ _ ew
        · rw [show placesTo fs j 0 = [] from rfl, List.append_nil]; exact dpAll_same (same_del pp g6) hacc
        · rw [show entsTo b (startsOf fs) rs 0 = [] from rfl, List.append_nil]; exact dpAll_same (same_del pf g6) hacf
      · rintro i σ H3 hi ⟨o15, o16, o17, o18, qw, acc, acf, rfl, hq3, e3, eps3, ew3, ep3, ef3, hacc3, hacf3⟩
        have hi2 : i < rs.length := by omega
        obtain ⟨z, hz, hzd⟩ := dp_nth hrx (i := i) (by rw [List.length_map]; exact hi2)
        rw [List.getElem_map] at hzd
        have hrg : rs.getD i (.plain true) = rs[i] := by rw [List.getD_eq_getElem?_getD, List.getElem?_eq_getElem hi2]; rfl
        have hrm : rs[i] ∈ rs := List.getElem_mem hi2
        have hft := hfit _ hrm
        have eE : (entAt b (startsOf fs) rs i) = ⟨b + adr rs i, rs[i], decide (i ∈ csOf rs), rs[i].to (fun t => b + adr rs t) (startsOf fs)⟩ := by unfold entAt; rw [hrg]
        have ptr : placesTo fs j (i + 1) = placesTo fs j i ++ rs[i].place tt (b + adr rs i) := by rw [pt, hrg]
        generalize rs[i] = r at hzd hft eE ptr hrm
        have at0 : atI (iV (asOf b rs)) ((0 : Int) + (i : Int)) = some (V.int (b + adr rs i)) := by
          rw [Int.zero_add]
          refine atI_nat ?_
          rw [iV_at (by omega), asOf_at (by omega)]
        have atz : atI rxs ((0 : Int) + (i : Int)) = some z := by rw [Int.zero_add]; exact atI_nat hz
        refine ⟨_, rfl, _, rfl, ra, _, _, _, rfl, rfl, seqT_same (e.trans e3) hra, atz, _, rfl, _, rfl, ps, _, _, _, rfl, rfl, SqL.of eps3, at0, _, _, _, rfl, ?_⟩
        have hal : (placesAll fs j ++ placesTo fs j i).length ≤ 30000 := by
          have q1 := bp j (by omega)
          have q2 := ptl i
          rw [List.length_append]
          omega
        have hfl : ((allTo fs j ++ entsTo b (startsOf fs) rs i).map Ent.back).length ≤ 30000 := by
          have q1 := ba j (by omega)
          rw [List.length_map, List.length_append, entsTo_len]
          omega
        dsimp only
        refine seq_mid (t1 := tIfS _ _ _) (fun σ' H' => ∃ (acc : List V), σ' = [some (.ref a), some (.int n), some (.int tk), some (.int g), some (.ref fa), some (.ref S), some (.int (baseAt fs fxs.length)), some (.ref D), some (.str tt), some (.int 0), some (.ref ra), some (.ref qw), some (.ref pp), some (.ref pf), some (.ref ps), some (.int ((0 : Int) + (i : Int))), some z, some (.int (b + adr rs i)), some (.int 0)] ∧
          Same G H' ∧ H' ps = some (.lst (iV (asOf b rs))) ∧ H' qw = some (.lst (iV (wordsE (allTo fs j ++ entsTo b (startsOf fs) rs i)))) ∧ H' pp = some (.lst acc) ∧ H' pf = some (.lst acf) ∧ DpAll K (del H' pp) acc (placesAll fs j ++ placesTo fs j (i + 1)) ∧ DpAll K (del H' pf) acf ((allTo fs j ++ entsTo b (startsOf fs) rs i).map Ent.back)) ?_ ?_
        · rintro σ' H5 ⟨acc5, rfl, e5, eps5, ew5, ep5, ef5, hacc5, hacf5⟩
          refine seq_mid (t1 := tIfS _ _ _) (fun σ' H' => ∃ (acf : List V) (to' : Int), σ' = [some (.ref a), some (.int n), some (.int tk), some (.int g), some (.ref fa), some (.ref S), some (.int (baseAt fs fxs.length)), some (.ref D), some (.str tt), some (.int 0), some (.ref ra), some (.ref qw), some (.ref pp), some (.ref pf), some (.ref ps), some (.int ((0 : Int) + (i : Int))), some z, some (.int (b + adr rs i)), some (.int to')] ∧
            (r.isJ = true → to' = r.to (fun t => b + adr rs t) (startsOf fs)) ∧
            Same G H' ∧ H' ps = some (.lst (iV (asOf b rs))) ∧ H' qw = some (.lst (iV (wordsE (allTo fs j ++ entsTo b (startsOf fs) rs i)))) ∧ H' pp = some (.lst acc5) ∧ H' pf = some (.lst acf) ∧ DpAll K (del H' pp) acc5 (placesAll fs j ++ placesTo fs j (i + 1)) ∧ DpAll K (del H' pf) acf ((allTo fs j ++ entsTo b (startsOf fs) rs (i + 1)).map Ent.back)) ?_ ?_
          · rintro σ' H6 ⟨acf6, to', rfl, hto, e6, eps6, ew6, ep6, ef6, hacc6, hacf6⟩
            have inn : inV (.int ((0 : Int) + (i : Int))) (nV (csOf rs)) = decide (i ∈ csOf rs) := by rw [Int.zero_add]; exact in_nV _ i
            have fl2 : (nV (csOf rs)).all flatV = true := by unfold nV; rw [List.all_map]; exact List.all_eq_true.mpr fun _ _ => rfl
            refine ⟨_, rfl, _, rfl, _, rfl, _, rfl, _, rfl, _, rfl, _, rfl, D, _, rfl, gDD _ e6, hp, _, rfl, .inl (SqL.of (e6 _ _ hv2)), rfl, fl2, _, rfl, ?_⟩
            rw [inn]
            refine ⟨z, r, b + adr rs i, to', decide (i ∈ csOf rs), S, startsOf fs, rs.length, fs.map (·.1), rfl, dp_same (e.trans e6) hzd, e6 _ _ eS, hft, hlk, fun pn H7 g7 hpn epn => ?_⟩
            have hws : r.words (b + adr rs i) (decide (i ∈ csOf rs)) (r.wto (startsOf fs) to') = (entAt b (startsOf fs) rs i).ws := by
              rw [eE]
              unfold Ent.ws
              cases r with
              | jump t => rw [hto rfl]; rfl
              | nought c t => rw [hto rfl]; rfl
              | _ => rfl
            rw [hws] at epn
            have hwl : (wordsE (allTo fs j ++ entsTo b (startsOf fs) rs i)).length + (entAt b (startsOf fs) rs i).ws.length ≤ 100000 := by
              have q1 := bx j (by omega)
              have q2 := wordsE_le (entsTo b (startsOf fs) rs i)
              have q3 := wordsE_le [entAt b (startsOf fs) rs i]
              rw [wordsE_one] at q3
              rw [entsTo_len] at q2
              rw [wordsE_app, List.length_append]
              simp only [List.length_cons, List.length_nil] at q3
              omega
            refine ⟨qw, pn, _, _, rfl, rfl, g7 _ _ ew6, epn, (by rw [iV_len, iV_len]; exact Nat.le_of_lt (szl (by omega))), fun pq hpq => ?_⟩
            have ewn : iV (wordsE (allTo fs j ++ entsTo b (startsOf fs) rs i)) ++ iV (entAt b (startsOf fs) rs i).ws = iV (wordsE (allTo fs j ++ entsTo b (startsOf fs) rs (i + 1))) := by
              rw [← iV_app2, entsTo_succ, ← List.append_assoc, wordsE_app (allTo fs j ++ _), wordsE_one]
            rw [ewn]
            have s8 := same_new hpq (.lst (iV (wordsE (allTo fs j ++ entsTo b (startsOf fs) rs (i + 1)))))
            have g8 := g7.trans s8
            refine ⟨_, _, _, _, pq, acc5, acf6, rfl, ⟨fun q => ?_, fun q => ?_⟩, e6.trans g8, g8 _ _ eps6, upd_same, g8 _ _ ep6, g8 _ _ ef6, dpAll_same (same_del pp g8) hacc6, dpAll_same (same_del pf g8) hacf6⟩
            · rw [q, g7 _ _ ep6] at hpq; cases hpq
            · rw [q, g7 _ _ ef6] at hpq; cases hpq
          · intro nx hnx
            have hzr := dp_same (e.trans e5) hzd
            have hzr0 := hzr
            obtain ⟨qa, qs, rfl, hqa, hqx, hq0⟩ := row_head hzr
            refine ⟨_, rfl, qa, _, _, _, rfl, rfl, hqa, hq0, (by show 2 ≤ sizeLine; decide), fun t1 ht1 => ?_⟩
            have s4 := same_new ht1 (.tup [.str "jump", .str "nought"])
            have ht1s : SqT K (upd H5 t1 (.tup [.str "jump", .str "nought"])) t1 [.str "jump", .str "nought"] := SqT.of upd_same
            generalize upd H5 t1 (.tup [.str "jump", .str "nought"]) = H6 at s4 ht1s ⊢
            refine ⟨t1, [.str "jump", .str "nought"], rfl, .inr ht1s, rfl, rfl, _, rfl, ?_⟩
            rw [in_two, verb_j]
            have e6 := e5.trans s4
            have eps6 := s4 _ _ eps5
            have ew6 := s4 _ _ ew5
            have ep6 := s4 _ _ ep5
            have ef6 := s4 _ _ ef5
            have hacc6 := dpAll_same (same_del pp s4) hacc5
            have hacf6 := dpAll_same (same_del pf s4) hacf5
            have hqa6 := seqT_same s4 hqa
            have hqx6 := dpAll_same s4 hqx
            have hzr6 := dp_same s4 hzr0
            have ebk : (allTo fs j ++ entsTo b (startsOf fs) rs (i + 1)).map Ent.back = (allTo fs j ++ entsTo b (startsOf fs) rs i).map Ent.back ++ [.tuple [.int (b + adr rs i), r.back (r.to (fun t => b + adr rs t) (startsOf fs))]] := by
              rw [entsTo_succ, ← List.append_assoc, List.map_append (l₁ := allTo fs j ++ _), eE]
              rfl
            have noB : noL (.tuple [.int (b + adr rs i), r.back (r.to (fun t => b + adr rs t) (startsOf fs))]) = true := by
              have := backD_noL (entAt b (startsOf fs) rs i)
              rw [eE] at this
              exact this
            have fin : ∀ (H7 : Hp) (t2 : Addr) (x2 : V) (to' : Int), Same H6 H7 → H7 t2 = none → Dp K H7 x2 (r.back (r.to (fun t => b + adr rs t) (startsOf fs))) → (r.isJ = true → to' = r.to (fun t => b + adr rs t) (startsOf fs)) →
                nx [some (.ref a), some (.int n), some (.int tk), some (.int g), some (.ref fa), some (.ref S), some (.int (baseAt fs fxs.length)), some (.ref D), some (.str tt), some (.int 0), some (.ref ra), some (.ref qw), some (.ref pp), some (.ref pf), some (.ref ps), some (.int ((0 : Int) + (i : Int))), some (.ref qa), some (.int (b + adr rs i)), some (.int to')] (upd (upd H7 t2 (.tup [.int (b + adr rs i), x2])) pf (.lst (acf ++ [.ref t2]))) := fun H7 t2 x2 to' g7 ht2 hx2 hto => by
              have s8 := same_new ht2 (.tup [.int (b + adr rs i), x2])
              have et2 : SqT K (upd H7 t2 (.tup [.int (b + adr rs i), x2])) t2 [.int (b + adr rs i), x2] := SqT.of upd_same
              generalize upd H7 t2 (.tup [.int (b + adr rs i), x2]) = H8 at s8 et2 ⊢
              have g8 := g7.trans s8
              have ef8 := g8 _ _ ef6
              refine hnx _ _ ⟨acf ++ [.ref t2], to', rfl, hto, same_mut (e6.trans g8) hpf0, ?_, ?_, ?_, upd_same, ?_, ?_⟩
              · rw [upd_ne nsf]; exact g8 _ _ eps6
              · rw [upd_ne hq3.2]; exact g8 _ _ ew6
              · rw [upd_ne npf]; exact g8 _ _ ep6
              · exact off_mut (dpAll_same (same_del pp g8) hacc6) (noLs_places fs j (i + 1)) ef8 (Ne.symm npf)
              · rw [ebk, del_upd]
                exact dpAll_app (dpAll_same (same_del pf g8) hacf6) (dp_off ef8 noB (.tup et2 (.cons (.int _) (.cons (dp_same s8 hx2) .nil))))
            have hfs : acf.length < sizeLine := szl (by rw [dp_len hacf3]; omega)
            cases hJ : r.isJ with
            | true =>
              refine iteT ?_
              obtain ⟨t, ds, er, hbk0, hto0, htl0⟩ := Ro.lastB hJ
              have hbk := hbk0 (r.to (fun t => b + adr rs t) (startsOf fs))
              have htl := htl0 _ _ hft
              have hto := hto0 (fun t => b + adr rs t) (startsOf fs)
              rw [er] at hqx6
              obtain ⟨ys, zl, rfl, hys, hzl⟩ := dp_lastI2 hqx6
              obtain rfl : zl = .int t := by cases hzl; rfl
              have att : atI (iV (asOf b rs)) (t : Int) = some (V.int (b + adr rs t)) := by
                refine atI_nat ?_
                rw [iV_at (by omega), asOf_at (by omega)]
              refine ⟨_, rfl, _, rfl, 1, rfl, qa, _, _, _, rfl, rfl, hqa6, atI_last _ _, ps, _, _, _, rfl, rfl, SqL.of eps6, att, ?_⟩
              refine ⟨_, rfl, .inl ⟨rfl, _, SqL.of ef6⟩, _, rfl, _, rfl, 1, rfl, -1, rfl, qa, _, rfl, hqa6, fun pc H7 g7 hpc => ?_⟩
              rw [cut_last] at hpc
              refine ⟨_, rfl, (by show 1 ≤ sizeLine; decide), fun t3 ht3 => ?_⟩
              have s8 := same_new ht3 (.tup [.int (b + adr rs t)])
              have et3 : SqT K (upd H7 t3 (.tup [.int (b + adr rs t)])) t3 [.int (b + adr rs t)] := SqT.of upd_same
              generalize upd H7 t3 (.tup [.int (b + adr rs t)]) = H8 at s8 et3 ⊢
              have hyl : ys.length ≤ 1000 := by
                have := dp_len hqx6
                rw [← er] at this
                rw [List.length_append] at this
                have h5 : (PyData.str r.verb :: r.args).length ≤ 5 := by
                  cases r with
                  | op k b c d pl => cases pl <;> simp [Ro.args]
                  | _ => simp [Ro.args]
                omega
              refine ⟨pc, t3, _, _, rfl, rfl, seqT_same s8 hpc, et3, (by rw [List.length_cons, List.length_nil]; exact Nat.le_of_lt (szl (by omega))), fun pd H9 g9 hpd => ?_⟩
              refine ⟨(by show 2 ≤ sizeLine; decide), fun t2 ht2 => ?_⟩
              have g69 := (g7.trans s8).trans g9
              have hds := dpAll_same g69 hys
              have hdd : Dp K H9 (.ref pd) (r.back (r.to (fun t => b + adr rs t) (startsOf fs))) := by
                rw [hbk, hto]
                exact .tup hpd (dpAll_app hds (.int _))
              refine ⟨pf, acf, _, rfl, rfl, same_new ht2 _ _ _ (g69 _ _ ef6), hfs, ?_⟩
              exact fin H9 t2 (.ref pd) _ g69 ht2 hdd (fun _ => hto.symm)
            | false =>
              refine iteF ?_
              refine ⟨_, rfl, qa, _, _, _, rfl, rfl, hqa6, hq0, rfl, _, rfl, ?_⟩
              rw [verb_c]
              have nj : r.isJ = true → (0 : Int) = r.to (fun t => b + adr rs t) (startsOf fs) := fun z => by rw [hJ] at z; cases z
              cases hC : r.isC with
              | true =>
                refine iteT ?_
                obtain ⟨u, pl, rfl⟩ : ∃ u pl, r = .call u pl := by
                  cases r with
                  | call u pl => exact ⟨u, pl, rfl⟩
                  | _ => cases hC
                have h1 : atI qs 1 = some (V.str u) := by
                  obtain ⟨x, ex, hx'⟩ := dp_nth hqx6 (i := 1) (by show 1 < 3; decide)
                  have hx2 : Dp K H6 x (.str u) := hx'
                  obtain rfl : x = .str u := by cases hx2; rfl
                  exact atI_nat (j := 1) ex
                have hl : look (startsOf fs) u = some ((look (startsOf fs) u).getD 0) := by
                  have : (look (startsOf fs) u).isSome = true := hlk u hft.1
                  cases hh : look (startsOf fs) u with
                  | none => rw [hh] at this; cases this
                  | some v => rfl
                have dg : DGet H6 S (.str u) (valV (sk (startsOf fs)) (Sum.inr u)) := .inl ⟨_, Sum.inr u, .inl (e6 _ _ eS), rfl, rfl⟩
                rw [sk_val, hl] at dg
                refine ⟨_, rfl, .inl ⟨rfl, _, SqL.of ef6⟩, _, rfl, _, rfl, _, rfl, qa, _, _, _, rfl, rfl, hqa6, h1, S, _, rfl, dg, ?_⟩
                refine ⟨(by show 2 ≤ sizeLine; decide), fun t3 ht3 => ?_⟩
                have s8 := same_new ht3 (.tup [.str "call", .int ((look (startsOf fs) u).getD 0)])
                have et3 : SqT K (upd H6 t3 (.tup [.str "call", .int ((look (startsOf fs) u).getD 0)])) t3 [.str "call", .int ((look (startsOf fs) u).getD 0)] := SqT.of upd_same
                generalize upd H6 t3 (.tup [.str "call", .int ((look (startsOf fs) u).getD 0)]) = H8 at s8 et3 ⊢
                refine ⟨(by show 2 ≤ sizeLine; decide), fun t2 ht2 => ?_⟩
                refine ⟨pf, acf, _, rfl, rfl, same_new ht2 _ _ _ (s8 _ _ ef6), hfs, ?_⟩
                exact fin H8 t2 (.ref t3) 0 s8 ht2 (.tup et3 (.cons (.str _) (.cons (.int _) .nil))) nj
              | false =>
                refine iteF ?_
                refine ⟨_, rfl, .inl ⟨rfl, _, SqL.of ef6⟩, _, rfl, _, rfl, qa, _, _, _, rfl, rfl, hqa6, hq0, (by show 2 ≤ sizeLine; decide), fun t3 ht3 => ?_⟩
                have s8 := same_new ht3 (.tup [.str "div", .str "rem"])
                have et3 : SqT K (upd H6 t3 (.tup [.str "div", .str "rem"])) t3 [.str "div", .str "rem"] := SqT.of upd_same
                generalize upd H6 t3 (.tup [.str "div", .str "rem"]) = H8 at s8 et3 ⊢
                refine ⟨t3, [.str "div", .str "rem"], rfl, .inr et3, rfl, rfl, _, rfl, ?_⟩
                rw [in_two, verb_R hft]
                cases hP : r.hasP with
                | true =>
                  refine iteT ?_
                  obtain ⟨L, d, eL, l4, hbk⟩ := back_hasP hP
                  rw [eL] at hqx6
                  obtain ⟨ys, zl, rfl, hys, hzl⟩ := dp_lastI2 hqx6
                  have yl : ys.length = 4 := by rw [dp_len hys, l4]
                  refine ⟨_, rfl, 4, rfl, qa, _, rfl, seqT_same s8 hqa6, fun pc H7 g7 hpc => ?_⟩
                  rw [show cutV (ys ++ [zl]) none (some 4) = ys from (cut_hi (n := 4)).trans (by rw [← yl]; exact List.take_left' rfl)] at hpc
                  refine ⟨(by show 2 ≤ sizeLine; decide), fun t2 ht2 => ?_⟩
                  have g78 := s8.trans g7
                  refine ⟨pf, acf, _, rfl, rfl, same_new ht2 _ _ _ (g78 _ _ ef6), hfs, ?_⟩
                  refine fin H7 t2 (.ref pc) 0 g78 ht2 ?_ nj
                  rw [hbk]
                  exact .tup hpc (dpAll_same g78 hys)
                | false =>
                  refine iteF ?_
                  refine ⟨_, rfl, ?_⟩
                  refine ⟨(by show 2 ≤ sizeLine; decide), fun t2 ht2 => ?_⟩
                  refine ⟨pf, acf, _, rfl, rfl, same_new ht2 _ _ _ (s8 _ _ ef6), hfs, ?_⟩
                  refine fin H8 t2 (.ref qa) 0 s8 ht2 ?_ nj
                  rw [back_noP hP hJ hC]
                  exact .tup (seqT_same s8 hqa6) (dpAll_same s8 hqx6)
        · intro nx hnx
          have hzr := dp_same (e.trans e3) hzd
          obtain ⟨qa, qs, rfl, hqa, hqx, hq0⟩ := row_head hzr
          refine ⟨_, rfl, qa, _, _, _, rfl, rfl, hqa, hq0, (by show 3 ≤ sizeLine; decide), fun t1 ht1 => ?_⟩
          have s4 := same_new ht1 (.tup [.str "div", .str "rem", .str "call"])
          have ht1s : SqT K (upd H3 t1 (.tup [.str "div", .str "rem", .str "call"])) t1 [.str "div", .str "rem", .str "call"] := SqT.of upd_same
          generalize upd H3 t1 (.tup [.str "div", .str "rem", .str "call"]) = H4 at s4 ht1s ⊢
          refine ⟨t1, [.str "div", .str "rem", .str "call"], rfl, .inr ht1s, rfl, rfl, _, rfl, ?_⟩
          rw [show inV (.str r.verb) [.str "div", .str "rem", .str "call"] = r.pl.isSome from verb_Q hft]
          cases hpl : r.pl with
          | none =>
            refine iteF ?_
            refine hnx _ _ ⟨acc, rfl, e3.trans s4, s4 _ _ eps3, s4 _ _ ew3, s4 _ _ ep3, s4 _ _ ef3, ?_, dpAll_same (same_del pf s4) hacf3⟩
            rw [ptr, place_eq, hpl, List.append_nil]
            exact dpAll_same (same_del pp s4) hacc3
          | some m =>
            refine iteT ?_
            obtain ⟨ds, er⟩ := pl_last hpl
            rw [er] at hqx
            obtain ⟨ys, zl, rfl, hzl⟩ := dp_lastI hqx
            obtain rfl : zl = .int m := by cases hzl; rfl
            have ep4 := s4 _ _ ep3
            refine ⟨_, rfl, .inl ⟨rfl, _, SqL.of ep4⟩, _, rfl, _, rfl, _, rfl, 1, rfl, qa, _, _, _, rfl, rfl, seqT_same s4 hqa, atI_last _ _, ?_⟩
            refine ⟨(by show 3 ≤ sizeLine; decide), fun t2 ht2 => ?_⟩
            have s5 := same_new ht2 (.tup [.int (b + adr rs i), .str tt, .int m])
            have et2 : SqT K (upd H4 t2 (.tup [.int (b + adr rs i), .str tt, .int m])) t2 [.int (b + adr rs i), .str tt, .int m] := SqT.of upd_same
            generalize upd H4 t2 (.tup [.int (b + adr rs i), .str tt, .int m]) = H5 at s5 et2 ⊢
            have ep5 := s5 _ _ ep4
            refine ⟨pp, acc, _, rfl, rfl, ep5, szl (by rw [dp_len hacc3]; omega), ?_⟩
            have npq : qw ≠ pp := hq3.1
            refine hnx _ _ ⟨acc ++ [.ref t2], rfl, same_mut ((e3.trans s4).trans s5) hpp0, ?_, ?_, upd_same, ?_, ?_, ?_⟩
            · rw [upd_ne npp]; exact s5 _ _ (s4 _ _ eps3)
            · rw [upd_ne npq]; exact s5 _ _ (s4 _ _ ew3)
            · rw [upd_ne (Ne.symm npf)]; exact s5 _ _ (s4 _ _ ef3)
            · rw [ptr, place_eq, hpl, ← List.append_assoc, del_upd]
              exact dpAll_app (dpAll_same (same_del pp (s4.trans s5)) hacc3) (dp_off ep5 rfl (.tup et2 (.cons (.int _) (.cons (.str _) (.cons (.int _) .nil)))))
            · exact off_mut (dpAll_same (same_del pf (s4.trans s5)) hacf3) (noLs_back _) ep5 npf
      · rintro σ H' ⟨o15, o16, o17, o18, qw, acc, acf, rfl, hq4, e', _, ew, ep, ef, hacc, hacf⟩
        rw [show (rxs.length : Int).toNat = rs.length by omega] at ew hacc hacf
        refine ⟨_, _, _, _, _, _, _, _, qw, acc, acf, rfl, hq4, e', ?_, ep, ef, ?_, ?_⟩
        · rw [allTo_succ]
          unfold fnEnts
          rw [hb, hrs]
          exact ew
        · rw [placesAll_succ, hrs]
          exact hacc
        · rw [allTo_succ]
          unfold fnEnts
          rw [hb, hrs]
          exact hacf
    · rintro σ H' ⟨o8, o9, o10, o14, o15, o16, o17, o18, qw, acc, acf, rfl, hq5, e', ew, ep, ef, hacc, hacf⟩
      rw [fl] at ew hacc hacf
      refine ⟨_, rfl, qw, _, rfl, .inl ⟨SqL.of ew, fun t1 ht1 => ?_⟩⟩
      have s1 := same_new ht1 (.tup (iV (wordsE (allTo fs fs.length))))
      have et1 : SqT K (upd H' t1 (.tup (iV (wordsE (allTo fs fs.length))))) t1 (iV (wordsE (allTo fs fs.length))) := SqT.of upd_same
      generalize upd H' t1 (.tup (iV (wordsE (allTo fs fs.length)))) = H1 at s1 et1 ⊢
      have e8 := e'.trans s1
      have hlkm : look (startsOf fs) "main" = some (mainAt fs) := by
        have : (look (startsOf fs) "main").isSome = true := hlk _ W.main
        unfold mainAt
        cases hh : look (startsOf fs) "main" with
        | none => rw [hh] at this; cases this
        | some v => rfl
      have gS : DGet H1 S (.str "main") (some (.int (mainAt fs))) := by
        refine .inl ⟨_, Sum.inr "main", .inl (e8 _ _ eS), rfl, ?_⟩
        show _ = valV (sk (startsOf fs)) (Sum.inr "main")
        rw [sk_val, hlkm]; rfl
      refine ⟨_, rfl, S, _, rfl, gS, _, rfl, _, rfl, _, rfl, _, rfl, pp, _, rfl, .inl ⟨SqL.of (s1 _ _ ep), fun t2 ht2 => ?_⟩⟩
      have s2 := same_new ht2 (.tup acc)
      have et2 : SqT K (upd H1 t2 (.tup acc)) t2 acc := SqT.of upd_same
      generalize upd H1 t2 (.tup acc) = H2 at s2 et2 ⊢
      refine ⟨(by show 6 ≤ sizeLine; decide), fun t3 ht3 => ?_⟩
      have s3 := same_new ht3 (.tup [.ref t1, .int (mainAt fs), .int n, .int tk, .int g, .ref t2])
      have et3 : SqT K (upd H2 t3 (.tup [.ref t1, .int (mainAt fs), .int n, .int tk, .int g, .ref t2])) t3 [.ref t1, .int (mainAt fs), .int n, .int tk, .int g, .ref t2] := SqT.of upd_same
      generalize upd H2 t3 (.tup [.ref t1, .int (mainAt fs), .int n, .int tk, .int g, .ref t2]) = H3 at s3 et3 ⊢
      have s13 := (s1.trans s2).trans s3
      refine ⟨_, rfl, pf, _, rfl, .inl ⟨SqL.of (s13 _ _ ef), fun t4 ht4 => ?_⟩⟩
      have s4 := same_new ht4 (.tup acf)
      have et4 : SqT K (upd H3 t4 (.tup acf)) t4 acf := SqT.of upd_same
      generalize upd H3 t4 (.tup acf) = H4 at s4 et4 ⊢
      refine ⟨(by show 2 ≤ sizeLine; decide), fun t5 ht5 => ?_⟩
      have s5 := same_new ht5 (.tup [.ref t3, .ref t4])
      refine k (.ref t5) _ ((e.trans e').trans ((s13.trans s4).trans s5)) (.tup (SqT.of upd_same) (.cons ?_ (.cons ?_ .nil)))
      · refine .tup (seqT_same (s4.trans s5) et3) (.cons ?_ (.cons (.int _) (.cons (.int _) (.cons (.int _) (.cons (.int _) (.cons ?_ .nil))))))
        · exact dp_same (((s2.trans s3).trans s4).trans s5) (.tup et1 (dp_ints _))
        · exact dp_same ((s3.trans s4).trans s5) (.tup et2 (dpAll_same ((del_le H' pp).trans (s1.trans s2)) hacc))
      · exact dp_same s5 (.tup et4 (dpAll_same ((del_le H' pf).trans (s13.trans s4)) hacf))
end
end Lk

set_option Elab.async false
set_option linter.all false
set_option maxRecDepth 100000
set_option pp.maxSteps 1500
set_option maxHeartbeats 4000000
namespace Lk
open PySem PySem.Spec PyProof.Rows L2
theorem seqT_offD {K : PySem.W.Frag} {H : Hp} {a l : Addr} {xs : List V} {kv : List (Key × V)} (h : SqT K H a xs) (hl : H l = some (.dK kv)) : SqT K (del H l) a xs := by
  rcases h with (h | ⟨o, h⟩) | h
  · have n : a ≠ l := fun z => by rw [z, hl] at h; cases h
    exact .inl (.inl (by rw [del_ne n]; exact h))
  · have n : a ≠ l := fun z => by rw [z, hl] at h; cases h
    exact .inl (.inr ⟨o, by rw [del_ne n]; exact h⟩)
  · exact .inr h
mutual
theorem dp_offD {K : PySem.W.Frag} {H : Hp} {l : Addr} {kv : List (Key × V)} (hl : H l = some (.dK kv)) : ∀ {v : V} {d : PyData}, noL d = true → Dp K H v d → Dp K (del H l) v d
  | _, _, _, .non => .non
  | _, _, _, .bl b => .bl b
  | _, _, _, .int i => .int i
  | _, _, _, .str x => .str x
  | _, _, n, .lst h a => nomatch n
  | _, _, n, .tup h a => .tup (seqT_offD h hl) (dpAll_offD hl n a)
theorem dpAll_offD {K : PySem.W.Frag} {H : Hp} {l : Addr} {kv : List (Key × V)} (hl : H l = some (.dK kv)) : ∀ {vs : List V} {ds : List PyData}, noLs ds = true → DpAll K H vs ds → DpAll K (del H l) vs ds
  | _, _, _, .nil => .nil
  | _, _, n, .cons a b => .cons (dp_offD hl (Bool.and_eq_true_iff.mp n).1 a) (dpAll_offD hl (Bool.and_eq_true_iff.mp n).2 b)
end
/-- lists and tuples made while a feed stands at l -/
theorem new_ne {K : PySem.W.Frag} {H : Hp} {l q p : Addr} {ns : List Int} (f : Feed K H l q ns) (h : H p = none) : p ≠ l := fun z => by
  obtain ⟨_, _, _, e, _⟩ := f
  rw [z, e] at h; cases h
/-- what is kept of a feed and of what stood ahead -/
structure FI (K : PySem.W.Frag) (H : Hp) (l q : Addr) (ns : List Int) (H' : Hp) : Prop where
  f : Feed K H' l q ns
  s : Same (del H l) (del H' l)
theorem FI.fresh {K : PySem.W.Frag} {H H' : Hp} {l q p : Addr} {ns : List Int} (f : FI K H l q ns H') (h : H' p = none) : H p = none := by
  have n := new_ne f.f h
  cases e : H p with
  | none => rfl
  | some o =>
    have := f.s p o (by rw [del_ne n]; exact e)
    rw [del_ne n, h] at this; cases this
theorem FI.put {K : PySem.W.Frag} {H H' : Hp} {l q p : Addr} {ns : List Int} (h0 : Feed K H l q ns) (f : FI K H l q ns H') (h : H p = none) (o : HO) : FI K H l q ns (upd H' p o) := by
  have n := new_ne h0 h
  have s : Same (del H l) (del (upd H' p o) l) := fun b u e => by
    by_cases c : b = l
    · subst c; rw [del_same] at e; cases e
    · have e2 := f.s b u e
      rw [del_ne c] at e e2 ⊢
      rw [upd_ne (fun z => by rw [z, h] at e; cases e)]; exact e2
  obtain ⟨a, b, t, h1, h2, h3, h4⟩ := f.f
  obtain ⟨_, _, _, _, g2, _, _⟩ := h0
  exact ⟨⟨a, b, t, by rw [upd_ne (Ne.symm n)]; exact h1, s.seq g2, h3, h4⟩, s⟩
theorem FI.new {K : PySem.W.Frag} {H H' : Hp} {l q p : Addr} {ns : List Int} (h0 : Feed K H l q ns) (f : FI K H l q ns H') (h : H' p = none) (o : HO) : FI K H l q ns (upd H' p o) := FI.put h0 f (f.fresh h) o
theorem FI.draw {K : PySem.W.Frag} {H H' H2 : Hp} {l q : Addr} {ns : List Int} (f : FI K H l q ns H') (f2 : Feed K H2 l q ns) (s2 : Same (del H' l) (del H2 l)) : FI K H l q ns H2 := ⟨f2, f.s.trans s2⟩
theorem FI.ref {K : PySem.W.Frag} {H : Hp} {l q : Addr} {ns : List Int} (f : Feed K H l q ns) : FI K H l q ns H := ⟨f, Same.refl _⟩
theorem dpl_new {K : PySem.W.Frag} {H : Hp} {l p : Addr} {v : V} {d : PyData} (h : Dp K (del H l) v d) (hp : H p = none) (o : HO) : Dp K (del (upd H p o) l) v d := dp_same (same_del l (same_new hp o)) h
theorem dpL_new {K : PySem.W.Frag} {H : Hp} {l p : Addr} {v : List V} {d : List PyData} (h : DpAll K (del H l) v d) (hp : H p = none) (o : HO) : DpAll K (del (upd H p o) l) v d := dpAll_same (same_del l (same_new hp o)) h
theorem sqTl {K : PySem.W.Frag} {H : Hp} {l p : Addr} {xs : List V} (n : p ≠ l) : SqT K (del (upd H p (.tup xs)) l) p xs := .inl (.inl (by rw [del_ne n, upd_same]))
theorem iV_erase : ∀ (ls : List Int) (n : Nat), (iV ls).eraseIdx n = iV (ls.eraseIdx n)
  | [], _ => rfl
  | _ :: _, 0 => rfl
  | x :: ls, n + 1 => by
    show V.int x :: (iV ls).eraseIdx n = V.int x :: iV (ls.eraseIdx n)
    rw [iV_erase ls n]
theorem seq_midg {i : Nat} {v : V} {t1 t2 : TS} {D : Ends} {σ : L2.St} {H : Hp} (I : L2.St → Hp → Prop) (hI : ∀ σ' H', I σ' H' → t2 D σ' H') (h : ∀ nx : L2.St → Hp → Prop, (∀ σ' H', I σ' H' → nx σ' H') → t1 { D with nx := nx } (σ.set i (some v)) H) :
    gName i v σ H (tSeq t1 t2 D) := h _ hI
theorem seqIx {n m : Nat} (h : n < m) : seqIndex? (n : Int) m = some n := by
  unfold seqIndex?
  have h1 : ¬ ((n : Int) < 0) := by omega
  simp only [h1, if_false]
  have h2 : (0 ≤ (n : Int) && decide ((n : Int) < (m : Int))) = true := by
    rw [Bool.and_eq_true_iff]; exact ⟨decide_eq_true (by omega), decide_eq_true (by omega)⟩
  rw [if_pos h2]
  rfl
def rgI (n : Int) : List Int := (List.range n.toNat).map fun (i : Nat) => (i : Int)
theorem rgV_iV (n : Int) : rgV 0 n = iV (rgI n) := by
  unfold rgV rgI iV
  rw [List.map_map, Int.sub_zero]
  congr 1
  funext i
  show V.int (0 + (i : Int)) = V.int (i : Int)
  rw [Int.zero_add]
def spRing (K : PySem.W.Frag) : Sp := fun vs H Q _ => ∃ (l q : Addr) (ns : List Int) (y : V) (t : Str) (own g : Int) (ts : List Str), vs = [.ref l, y] ∧ Feed K H l q ns ∧ Dp K (del H l) y (.tuple [.str t, .int own, .int g]) ∧ 1 ≤ own ∧ own ≤ 16 ∧ (g = 0 ∨ g = 1) ∧ t ∈ ts ∧
  ∀ (p : Addr) (xs : List V) (H' : Hp) (us : List Ro), Feed K H' l q ns → Same (del H l) (del H' l) → H p = none → H' p = some (.lst xs) → p ≠ l → DpAll K (del H' l) xs (us.map Ro.d) → (∀ u ∈ us, u.fit 0 ts) → us.length ≤ 10 → Q (.ref p) H'
theorem ro_noL (r : Ro) : noL r.d = true := by
  cases r with
  | op k b c d pl => cases pl <;> rfl
  | _ => rfl
theorem noLs_ro (rs : List Ro) : noLs (rs.map Ro.d) = true := by
  induction rs with
  | nil => rfl
  | cons r rs ih => show (noL r.d && noLs (rs.map Ro.d)) = true; rw [ro_noL, ih]; rfl
section
variable {P : Program} {w : World} {K : PySem.W.Frag} {mg : Str → Option Value} {base : Heap}
theorem ok_ring (T : Txt K mg) : FnOk P w K mg base CX0 2 T.f__law_ring_call T.d__law_ring_call ["_law_feed_here", "_law_head"] (spRing K) := by
  have nd := sc__law_ring_call.nd
  refine T.F__law_ring_call.ok sc__law_ring_call (fun vs H Q E h => ?_) (fun cdv A outer s H vs Q E hr h => ?_)
  · obtain ⟨l, q, ns, y, t, own, g, ts, rfl, _⟩ := h
    rfl
  obtain ⟨l, q, ns, y, t, own, g, ts, rfl, hf, hy, ho1, ho2, hg, ht, k⟩ := h
  have G__law_draw : FnOk P w K mg base CX0 1 _ _ _ (spTake K) := ok_draw T
  have hr__law_draw := hr
  refine ⟨_, (pss_cons (ps_asg (pv 1) (pg_tup rfl (pgs_cons (pg_name (i := 2) nd rfl (Or.inl rfl)) (pgs_cons (pg_name (i := 3) nd rfl (Or.inl rfl)) (pgs_cons (pg_name (i := 4) nd rfl (Or.inl rfl)) pgs_nil)))))
      (pss_cons (ps_par (i := 5) (j := 6) rfl nd rfl rfl (by decide) rfl rfl (pa_cons (by exact (pe_listRg rfl (by rfl) T.z_list (prg_1 (by rfl) T.z_range (pv 3)))) (pa_cons (pe_lst pa_nil) pa_nil)) (by rfl))
      (pss_cons (ps_for PassesOwn.never rfl (pi_range1 (by rfl) T.z_range (pa_cons (pe_callB (call_min2 rfl) (by rfl) T.z_min (by decide +kernel) (pa_cons (pe_op op_sub (pv 3) (pv 4)) (pa_cons (pe_op op_add pe_int (pe_call G__law_draw hr__law_draw rfl T.m__law_draw T.k__law_draw T.b__law_draw .nil pass0 (pa_cons (pv 0) (pa_cons pe_int pa_nil)))) pa_nil))) pa_nil)) (pg_name (i := 7) nd rfl (Or.inl rfl))
      (pss_one (ps_expr (pe_bm PySem.F.plainAttrs_list PySem.F.slot_list_append PySem.F.type_list_append mt_append (pv 6) (pa_cons (pe_bm PySem.F.plainAttrs_list PySem.F.slot_list_pop PySem.F.type_list_pop mt_popAt (pv 5) (pa_cons (pe_call G__law_draw hr__law_draw rfl T.m__law_draw T.k__law_draw T.b__law_draw .nil pass0 (pa_cons (pv 0) (pa_cons (pe_callB call_len_seq (by rfl) T.z_len PySem.boot_len (pa_cons (pv 5) pa_nil)) pa_nil))) pa_nil)) pa_nil)))))
      (pss_cons (ps_set (i := 8) nd rfl (Or.inl rfl) (pe_op op_cat (pe_lc (own := [("_law_r", 9)]) (g := gName 9) (tt := tYes) (by rfl) nd (pi_list (pv 6)) (blkOk_by (own := [("_law_r", 9)]) (N := sl__law_ring_call) (sc := defScope s__law_ring_call) (by decide +kernel)) (fun _ _ _ _ _ => pg_name (i := 9) nd rfl (Or.inl rfl)) (fun _ _ _ _ _ => pts_nil) (fun _ _ _ _ _ => (pe_tup (pa_cons pe_str (pa_cons (pv 9) pa_nil))))) (pe_lst (pa_cons (pe_tup (pa_cons pe_str (pa_cons (pv 2) (pa_cons (pe_call G__law_draw hr__law_draw rfl T.m__law_draw T.k__law_draw T.b__law_draw .nil pass0 (pa_cons (pv 0) (pa_cons pe_int pa_nil))) pa_nil)))) pa_nil))))
      (pss_cons (ps_if (PW.pt (pw_and (pt_cmpR (op_neD hr.units) (pv 6) (pe_lst pa_nil) (nomark _)) (pw_and1 (pt_cmpR op_eq (pv 4) pe_int (nomark _))))) (pss_one (ps_expr (pe_bm PySem.F.plainAttrs_list PySem.F.slot_list_append PySem.F.type_list_append mt_append (pv 8) (pa_cons (pe_tup (pa_cons pe_str (pa_cons (pe_callB call_len_seq (by rfl) T.z_len PySem.boot_len (pa_cons (pv 6) pa_nil)) (pa_cons pe_int pa_nil)))) pa_nil)))) pss_nil)
      (pss_one (ps_ret (pe_op op_cat (pv 8) (pe_revL (pe_lc (own := [("_law_i", 10)]) (g := gName 10) (tt := tYes) (by rfl) nd (pi_range1 (by rfl) T.z_range (pa_cons (pe_callB call_len_seq (by rfl) T.z_len PySem.boot_len (pa_cons (pv 6) pa_nil)) pa_nil)) (blkOk_by (own := [("_law_i", 10)]) (N := sl__law_ring_call) (sc := defScope s__law_ring_call) (by decide +kernel)) (fun _ _ _ _ _ => pg_name (i := 10) nd rfl (Or.inl rfl)) (fun _ _ _ _ _ => pts_nil) (fun _ _ _ _ _ => (pe_tup (pa_cons pe_str (pa_cons (pv 10) pa_nil)))))))))))))), ?_⟩
  have hl : ∃ kv, H l = some (.dK kv) := by obtain ⟨_, _, _, h, _⟩ := hf; exact ⟨_, h⟩
  obtain ⟨za, zs, rfl, hza, hzs⟩ := tup_inv hy
  obtain rfl : zs = [.str t, .int own, .int g] := by
    cases hzs with
    | cons a1 r1 => cases r1 with
      | cons a2 r2 => cases r2 with
        | cons a3 r3 => cases r3; cases a1; cases a2; cases a3; rfl
  refine ⟨_, rfl, za, _, rfl, seqT_same (del_le H l) hza, rfl, _, _, rfl, _, _, rfl, _, _, rfl, rfl, ?_⟩
  refine ⟨_, rfl, own, rfl, RgOk.of_le (by omega) (by omega) (by omega) (by omega), fun pl hpl => ?_⟩
  rw [rgV_iV]
  have f1 := FI.new hf (FI.ref hf) hpl (.lst (iV (rgI own)))
  have e1 : (upd H pl (.lst (iV (rgI own)))) pl = some (.lst (iV (rgI own))) := upd_same
  generalize upd H pl (.lst (iV (rgI own))) = H1 at f1 e1 ⊢
  refine ⟨(by show 0 ≤ sizeLine; decide), fun ph hph => ⟨_, _, rfl, ?_⟩⟩
  have f2 := FI.new hf f1 hph (.lst [])
  have nlh : pl ≠ ph := fun z => by rw [← z, e1] at hph; cases hph
  have hph0 := f1.fresh hph
  have e2 : (upd H1 ph (.lst [])) pl = some (.lst (iV (rgI own))) := by rw [upd_ne nlh]; exact e1
  have e3 : (upd H1 ph (.lst [])) ph = some (.lst (iV [])) := upd_same
  generalize upd H1 ph (.lst []) = H2 at f2 e2 e3 ⊢
  have npl : pl ≠ l := new_ne hf hpl
  have nph : ph ≠ l := new_ne hf hph0
  have rgl : (rgI own).length = own.toNat := by unfold rgI; rw [List.length_map, List.length_range]
  have rgr : ∀ x ∈ rgI own, reg x := fun x m => by
    obtain ⟨i, hi, rfl⟩ := List.mem_map.mp m
    have := List.mem_range.mp hi
    unfold reg; omega
  refine ⟨_, rfl, _, rfl, _, _, rfl, rfl, _, rfl, l, 4, q, ns, rfl, f2.f, by decide, by decide, fun r H3 r0 r1 g3 k3 => ?_⟩
  have f3 := f2.draw g3 k3
  have e4 := Same.off k3 npl e2
  have e5 := Same.off k3 nph e3
  refine ⟨_, _, rfl, rfl, _, _, rfl, ?_⟩
  generalize hlap : (if 1 + r < own - g then 1 + r else own - g) = lap
  have hlap1 : lap ≤ own - g ∧ lap ≤ 4 ∧ 0 ≤ lap := by
    rw [← hlap]
    split <;> omega
  refine ⟨lap, rfl, by omega, by omega, ?_⟩
  refine for_range (lo := 0) (n := lap.toNat) (fun i σ H' => ∃ (o7 : Option V) (ls hs : List Int), σ = [some (.ref l), some (.ref za), some (.str t), some (.int own), some (.int g), some (.ref pl), some (.ref ph), o7, none, none, none] ∧
    FI K H l q ns H' ∧ H' pl = some (.lst (iV ls)) ∧ H' ph = some (.lst (iV hs)) ∧ ls.length + i = own.toNat ∧ hs.length = i ∧ (∀ x ∈ ls, reg x) ∧ (∀ x ∈ hs, reg x)) ?_ ?_ ?_
  · exact ⟨none, rgI own, [], rfl, f3, e4, e5, by rw [rgl]; rfl, rfl, rgr, fun _ m => nomatch m⟩
  · rintro i σ H4 hi ⟨o7, ls, hs, rfl, f4, el, eh, hl1, hl2, hr1, hr2⟩
    refine ⟨_, rfl, .inl ⟨rfl, _, SqL.of eh⟩, _, rfl, .inl ⟨rfl, _, SqL.of el⟩, _, rfl, _, rfl, pl, _, rfl, .inl (SqL.of el), ?_⟩
    refine ⟨l, _, q, ns, rfl, f4.f, (by rw [iV_len]; omega), (by rw [iV_len]; omega), fun d H5 d0 d1 g5 k5 => ?_⟩
    obtain ⟨n, rfl⟩ := Int.eq_ofNat_of_zero_le d0
    rw [iV_len] at d1
    have hn : n < ls.length := by omega
    have el5 := Same.off k5 npl el
    have eh5 := Same.off k5 nph eh
    have f5 := f4.draw g5 k5
    refine ⟨pl, _, _, n, .int (ls.getD n 0), rfl, rfl, el5, by omega, by omega, seqIx (by rw [iV_len]; exact hn), iV_at hn, ?_⟩
    have f6 := FI.put hf f5 hpl (.lst ((iV ls).eraseIdx n))
    have eh6 : (upd H5 pl (.lst ((iV ls).eraseIdx n))) ph = some (.lst (iV hs)) := by rw [upd_ne (Ne.symm nlh)]; exact eh5
    have el6 : (upd H5 pl (.lst ((iV ls).eraseIdx n))) pl = some (.lst ((iV ls).eraseIdx n)) := upd_same
    generalize upd H5 pl (.lst ((iV ls).eraseIdx n)) = H6 at f6 eh6 el6 ⊢
    refine ⟨ph, _, _, rfl, rfl, eh6, (by rw [iV_len]; exact szl (by omega)), ?_⟩
    have er : (iV ls).eraseIdx n = iV (ls.eraseIdx n) := by exact iV_erase ls n
    have gm : ls.getD n 0 ∈ ls := by rw [List.getD_eq_getElem?_getD, List.getElem?_eq_getElem hn]; exact List.getElem_mem hn
    refine ⟨_, ls.eraseIdx n, hs ++ [ls.getD n 0], rfl, FI.put hf f6 hph0 _, ?_, by rw [upd_same, iV_app], ?_, by rw [List.length_append, hl2]; rfl, fun x m => hr1 x (List.mem_of_mem_eraseIdx m), fun x m => ?_⟩
    · rw [upd_ne nlh, el6, er]
    · rw [List.length_eraseIdx_of_lt hn]; omega
    · rcases List.mem_append.mp m with m | m
      · exact hr2 x m
      · rw [List.mem_singleton.mp m]; exact hr1 _ gm
  · rintro σ H4 ⟨o7, ls, hs, rfl, f4, el, eh, hl1, hl2, hr1, hr2⟩
    have hsl : hs.length ≤ 4 := by omega
    have hsg : g = 1 → hs.length ≤ 15 := fun z => by omega
    refine ⟨_, rfl, ph, rfl, ⟨_, SqL.of eh⟩, fun D hD => ?_⟩
    have nD : D ≠ l := new_ne f4.f hD
    have hD0 := f4.fresh hD
    have nDh : ph ≠ D := fun z => by rw [← z, eh] at hD; cases hD
    refine lc_list (K := K) (a := ph) (xs := iV hs) (fun i H' => FI K H l q ns H' ∧ H' ph = some (.lst (iV hs)) ∧ ∃ acc, H' D = some (.lst acc) ∧ DpAll K (del H' l) acc (((hs.take i).map (Ro.cell 1)).map Ro.d)) ?_ ?_ ?_ ?_
    · exact ⟨FI.put hf f4 hD0 _, by rw [upd_ne nDh]; exact eh, [], upd_same, .nil⟩
    · rintro i H' _ ⟨_, e, _⟩
      exact SqL.of e
    · rintro i x H5 hix ⟨f5, eh5, acc, eD, hacc⟩
      obtain ⟨n, hn, rfl⟩ := iV_get hix
      have hi : i < hs.length := (List.getElem?_eq_some_iff.mp hn).1
      refine ⟨rfl, ?_⟩
      refine ⟨_, rfl, (by show 2 ≤ sizeLine; decide), fun p hp => ?_⟩
      have np := new_ne f5.f hp
      have nDp : D ≠ p := fun z => by rw [← z, eD] at hp; cases hp
      have eD6 : (upd H5 p (.tup [.str "keep", .int n])) D = some (.lst acc) := by rw [upd_ne nDp]; exact eD
      refine ⟨acc, eD6, (by rw [dp_len hacc, List.length_map, List.length_map, List.length_take]; exact szl (by omega)), FI.put hf (FI.new hf f5 hp _) hD0 _, ?_, acc ++ [.ref p], upd_same, ?_⟩
      · rw [upd_ne nDh, upd_ne (fun z => by rw [← z, eh5] at hp; cases hp)]; exact eh5
      · have hk : ((hs.take (i + 1)).map (Ro.cell 1)).map Ro.d = ((hs.take i).map (Ro.cell 1)).map Ro.d ++ [(Ro.cell 1 n).d] := by
          rw [List.take_succ, hn, List.map_append, List.map_append]; rfl
        rw [hk]
        refine off_mut (dpAll_app (dpL_new hacc hp _) (.tup (sqTl np) (.cons (.str _) (.cons (.int _) .nil)))) ?_ eD6 nD
        rw [← hk]
        exact noLs_ro _
    · rintro H5 ⟨f5, eh5, acc, eD, hacc⟩
      rw [iV_len, List.take_length] at hacc
      refine ⟨_, rfl, _, rfl, l, 9, q, ns, rfl, f5.f, by decide, by decide, fun dr H6 dr0 dr1 g6 k6 => ?_⟩
      have f6 := f5.draw g6 k6
      have eh6 := Same.off k6 nph eh5
      have eD6 := Same.off k6 nD eD
      have hacc6 := dpAll_same k6 hacc
      refine ⟨(by show 3 ≤ sizeLine; decide), fun p hp => ?_⟩
      have np := new_ne f6.f hp
      have f7 := FI.new hf f6 hp (.tup [.str "call", .str t, .int dr])
      have c7 : Dp K (del (upd H6 p (.tup [.str "call", .str t, .int dr])) l) (.ref p) (Ro.call t dr).d := .tup (sqTl np) (.cons (.str _) (.cons (.str _) (.cons (.int _) .nil)))
      have eh7 := same_new hp (.tup [.str "call", .str t, .int dr]) _ _ eh6
      have eD7 := same_new hp (.tup [.str "call", .str t, .int dr]) _ _ eD6
      have hacc7 := dpL_new hacc6 hp (.tup [.str "call", .str t, .int dr])
      generalize upd H6 p (.tup [.str "call", .str t, .int dr]) = H7 at f7 c7 eh7 eD7 hacc7 ⊢
      refine ⟨(by show 1 ≤ sizeLine; decide), fun p2 hp2 => ?_⟩
      have f8 := FI.new hf f7 hp2 (.lst [.ref p])
      have e8 : (upd H7 p2 (.lst [.ref p])) p2 = some (.lst [.ref p]) := upd_same
      have c8 := dpl_new c7 hp2 (.lst [.ref p])
      have eh8 := same_new hp2 (.lst [.ref p]) _ _ eh7
      have eD8 := same_new hp2 (.lst [.ref p]) _ _ eD7
      have hacc8 := dpL_new hacc7 hp2 (.lst [.ref p])
      generalize upd H7 p2 (.lst [.ref p]) = H8 at f8 c8 e8 eh8 eD8 hacc8 ⊢
      have al : acc.length = hs.length := by rw [dp_len hacc, List.length_map, List.length_map]
      refine ⟨D, p2, _, _, rfl, rfl, eD8, e8, (by rw [al]; simp only [List.length_cons, List.length_nil]; exact Nat.le_of_lt (szl (by omega))), fun pr hpr => ?_⟩
      have f9 := FI.new hf f8 hpr (.lst (acc ++ [.ref p]))
      have e9 : (upd H8 pr (.lst (acc ++ [.ref p]))) pr = some (.lst (acc ++ [.ref p])) := upd_same
      have eh9 := same_new hpr (.lst (acc ++ [.ref p])) _ _ eh8
      have hacc9 := dpAll_app (dpL_new hacc8 hpr (.lst (acc ++ [.ref p]))) (dpl_new c8 hpr (.lst (acc ++ [.ref p])))
      have npr := new_ne f8.f hpr
      have hpr0 := f8.fresh hpr
      have nhr : ph ≠ pr := fun z => by rw [← z, eh8] at hpr; cases hpr
      have hus : ((hs.map (Ro.cell 1)).map Ro.d) ++ [(Ro.call t dr).d] = (hs.map (Ro.cell 1) ++ [Ro.call t dr]).map Ro.d := by rw [List.map_append]; rfl
      rw [hus] at hacc9
      generalize upd H8 pr (.lst (acc ++ [.ref p])) = H9 at f9 e9 eh9 hacc9 ⊢
      generalize acc ++ [V.ref p] = acc1 at e9 hacc9
      dsimp only
      refine seq_midg (t1 := tIfS _ _ _) (fun σ' H' => ∃ (us : List Ro) (acc : List V), σ' = [some (.ref l), some (.ref za), some (.str t), some (.int own), some (.int g), some (.ref pl), some (.ref ph), o7, some (.ref pr), none, none] ∧
        FI K H l q ns H' ∧ H' ph = some (.lst (iV hs)) ∧ H' pr = some (.lst acc) ∧ DpAll K (del H' l) acc (us.map Ro.d) ∧ us.length ≤ 6 ∧ ∀ u ∈ us, u.fit 0 ts) ?_ ?_
      · rintro σ' HA ⟨us, accA, rfl, fA, ehA, eA, haccA, ul, uf⟩
        refine ⟨_, rfl, _, rfl, ph, _, rfl, .inl (SqL.of ehA), (hs.length : Int), (by rw [iV_len]), by omega, by omega, fun R hR => ?_⟩
        have nR : R ≠ l := new_ne fA.f hR
        have hR0 := fA.fresh hR
        have nRr : pr ≠ R := fun z => by rw [← z, eA] at hR; cases hR
        refine lc_it (walk_range (lo := 0) (n := (hs.length : Int).toNat)) (fun i H' => FI K H l q ns H' ∧ H' pr = some (.lst accA) ∧ DpAll K (del H' l) accA (us.map Ro.d) ∧ ∃ acc, H' R = some (.lst acc) ∧ DpAll K (del H' l) acc (((rgI (i : Int)).map (Ro.cell 2)).map Ro.d)) ?_ ?_ ?_ ?_
        · exact ⟨FI.put hf fA hR0 _, by rw [upd_ne nRr]; exact eA, dpL_new haccA hR _, [], upd_same, .nil⟩
        · rintro i H' _ _
          trivial
        · rintro i x HX HB hi ⟨fB, eB, haccB, acc, eR, haccR⟩ ⟨rfl, rfl⟩
          refine ⟨rfl, ?_⟩
          have hi4 : i < 4 := by omega
          have rl : (rgI (i : Int)).length = i := by unfold rgI; rw [List.length_map, List.length_range]; omega
          refine ⟨_, rfl, (by show 2 ≤ sizeLine; decide), fun p hp => ?_⟩
          have np := new_ne fB.f hp
          have nDp : R ≠ p := fun z => by rw [← z, eR] at hp; cases hp
          have nrp : pr ≠ p := fun z => by rw [← z, eB] at hp; cases hp
          have eD6 : (upd HB p (.tup [.str "fetch", .int ((0 : Int) + (i : Int))])) R = some (.lst acc) := by rw [upd_ne nDp]; exact eR
          have hk : ((rgI ((i + 1 : Nat) : Int)).map (Ro.cell 2)).map Ro.d = ((rgI (i : Int)).map (Ro.cell 2)).map Ro.d ++ [(Ro.cell 2 ((0 : Int) + (i : Int))).d] := by
            unfold rgI
            rw [show ((i + 1 : Nat) : Int).toNat = i + 1 by omega, show ((i : Nat) : Int).toNat = i by omega, List.range_succ, List.map_append, List.map_append, List.map_append, Int.zero_add]
            rfl
          refine ⟨acc, eD6, (by rw [dp_len haccR, List.length_map, List.length_map, rl]; exact szl (by omega)), FI.put hf (FI.new hf fB hp _) hR0 _, ?_, ?_, acc ++ [.ref p], upd_same, ?_⟩
          · rw [upd_ne nRr, upd_ne nrp]; exact eB
          · exact off_mut (dpL_new haccB hp _) (noLs_ro _) eD6 nR
          · rw [hk]
            refine off_mut (dpAll_app (dpL_new haccR hp _) (.tup (sqTl np) (.cons (.str _) (.cons (.int _) .nil)))) ?_ eD6 nR
            rw [← hk]
            exact noLs_ro _
        · rintro HB ⟨fB, eB, haccB, acc, eR, haccR⟩
          rw [show ((hs.length : Int).toNat : Int) = hs.length by omega] at haccR
          refine ⟨R, acc, rfl, SqL.of eR, fun R2 hR2 => ?_⟩
          have eR2 : (upd HB R2 (.lst acc.reverse)) R2 = some (.lst acc.reverse) := upd_same
          have eB2 := same_new hR2 (.lst acc.reverse) _ _ eB
          have fB2 := FI.new hf fB hR2 (.lst acc.reverse)
          have h1 := dpL_new haccB hR2 (.lst acc.reverse)
          have h2 := dpAll_reverse (dpL_new haccR hR2 (.lst acc.reverse))
          generalize upd HB R2 (.lst acc.reverse) = HC at eR2 eB2 fB2 h1 h2 ⊢
          have rl : (rgI (hs.length : Int)).length = hs.length := by unfold rgI; rw [List.length_map, List.length_range]; omega
          have l1 : accA.length = us.length := by rw [dp_len h1, List.length_map]
          have l2 : acc.reverse.length = hs.length := by rw [dp_len h2, List.length_reverse, List.length_map, List.length_map, rl]
          refine ⟨pr, R2, _, _, rfl, rfl, eB2, eR2, (by rw [l1, l2]; exact Nat.le_of_lt (szl (by omega))), fun R3 hR3 => ?_⟩
          have fC := FI.new hf fB2 hR3 (.lst (accA ++ acc.reverse))
          refine k R3 (accA ++ acc.reverse) _ (us ++ ((rgI (hs.length : Int)).map (Ro.cell 2)).reverse) fC.f fC.s (fB2.fresh hR3) upd_same (new_ne fB2.f hR3) ?_ ?_ ?_
          · rw [List.map_append, List.map_reverse]
            exact dpL_new (dpAll_cat h1 h2) hR3 _
          · intro u m
            rcases List.mem_append.mp m with m | m
            · exact uf u m
            · obtain ⟨x, mx, rfl⟩ := List.mem_map.mp (List.mem_reverse.mp m)
              obtain ⟨i, mi, rfl⟩ := List.mem_map.mp mx
              have := List.mem_range.mp mi
              show reg _
              unfold reg
              omega
          · rw [List.length_append, List.length_reverse, List.length_map, rl]; omega
      · intro nx hnx
        have stay : ∀ HA, FI K H l q ns HA → HA ph = some (.lst (iV hs)) → HA pr = some (.lst acc1) → DpAll K (del HA l) acc1 ((hs.map (Ro.cell 1) ++ [Ro.call t dr]).map Ro.d) →
            nx [some (.ref l), some (.ref za), some (.str t), some (.int own), some (.int g), some (.ref pl), some (.ref ph), o7, some (.ref pr), none, none] HA := fun HA h1 h2 h3 h4 => by
          refine hnx _ _ ⟨_, acc1, rfl, h1, h2, h3, h4, ?_, ?_⟩
          · rw [List.length_append, List.length_map]; simp only [List.length_cons, List.length_nil]; omega
          · intro u m
            rcases List.mem_append.mp m with m | m
            · obtain ⟨x, mx, rfl⟩ := List.mem_map.mp m
              exact hr2 x mx
            · rw [List.mem_singleton.mp m]; exact ⟨ht, dr0, by omega⟩
        refine ⟨_, rfl, (by show 0 ≤ sizeLine; decide), fun pe hpe => ?_⟩
        have nrpe : pr ≠ pe := fun z => by rw [← z, e9] at hpe; cases hpe
        have fA := FI.new hf f9 hpe (.lst [])
        have ehA := same_new hpe (.lst []) _ _ eh9
        have eA := same_new hpe (.lst []) _ _ e9
        have haA := dpL_new hacc9 hpe (.lst [])
        have epe : (upd H9 pe (.lst [])) pe = some (.lst []) := upd_same
        generalize upd H9 pe (.lst []) = HA at fA ehA eA haA epe ⊢
        refine ⟨.list (hs.map .int), .list [], .lst (SqL.of ehA) (dp_ints hs), .lst (SqL.of epe) .nil, shaped_iV hs, rfl, _, rfl, ?_⟩
        cases hs with
        | nil =>
          refine iteF ?_
          refine iteF ?_
          exact stay HA fA ehA eA haA
        | cons h0 hr0 =>
          refine iteT ?_
          refine ⟨_, rfl, rfl, _, rfl, ?_⟩
          rw [int_dec]
          by_cases cg : g = 1
          · refine ifT (decide_eq_true cg) ?_
            have := hsg cg
            refine ⟨_, rfl, .inl ⟨rfl, _, SqL.of eA⟩, _, rfl, ph, _, rfl, .inl (SqL.of ehA), (by show 3 ≤ sizeLine; decide), fun p hp => ?_⟩
            have np := new_ne fA.f hp
            have eB := same_new hp (.tup [.str "move", .int ((iV (h0 :: hr0)).length : Int), .int 0]) _ _ eA
            have a1 : acc1.length ≤ 100 := by rw [dp_len haA, List.length_map, List.length_append, List.length_map]; simp only [List.length_cons, List.length_nil]; simp only [List.length_cons] at hsl; omega
            refine ⟨pr, acc1, _, rfl, rfl, eB, szl (by omega), ?_⟩
            have hk : (((h0 :: hr0).map (Ro.cell 1) ++ [Ro.call t dr]) ++ [Ro.two true ((iV (h0 :: hr0)).length : Int) 0]).map Ro.d = ((h0 :: hr0).map (Ro.cell 1) ++ [Ro.call t dr]).map Ro.d ++ [(Ro.two true ((iV (h0 :: hr0)).length : Int) 0).d] := by rw [List.map_append]; rfl
            refine hnx _ _ ⟨((h0 :: hr0).map (Ro.cell 1) ++ [Ro.call t dr]) ++ [Ro.two true ((iV (h0 :: hr0)).length : Int) 0], acc1 ++ [.ref p], rfl, FI.put hf (FI.new hf fA hp _) hpr0 _, ?_, upd_same, ?_, ?_, ?_⟩
            · rw [upd_ne (fun z => by rw [z, eA] at ehA; exact nhr z), upd_ne (fun z => by rw [← z, ehA] at hp; cases hp)]; exact ehA
            · rw [hk]
              refine off_mut (dpAll_app (dpL_new haA hp _) (.tup (sqTl np) (.cons (.str _) (.cons (.int _) (.cons (.int _) .nil))))) ?_ eB npr
              rw [← hk]
              exact noLs_ro _
            · simp only [List.length_append, List.length_map, List.length_cons, List.length_nil] at hsl ⊢; omega
            · intro u m
              rcases List.mem_append.mp m with m | m
              · rcases List.mem_append.mp m with m | m
                · obtain ⟨x, mx, rfl⟩ := List.mem_map.mp m
                  exact hr2 x mx
                · rw [List.mem_singleton.mp m]; exact ⟨ht, dr0, by omega⟩
              · rw [List.mem_singleton.mp m]
                show reg _ ∧ reg _
                unfold reg
                rw [iV_len]
                exact ⟨⟨by omega, by omega⟩, by omega, by omega⟩
          · refine ifF (decide_eq_false cg) ?_
            exact stay HA fA ehA eA haA
end
end Lk

set_option Elab.async false
set_option linter.all false
set_option maxRecDepth 100000
set_option pp.maxSteps 1500
set_option maxHeartbeats 4000000
namespace Lk
open PySem PySem.Spec PyProof.Rows L2
def headD (h : Str × Int × Int) : PyData := .tuple [.str h.1, .int h.2.1, .int h.2.2]
theorem fit_up {u : Ro} {ts : List Str} (n : Nat) (h : u.fit 0 ts) : u.fit n ts := by
  cases u with
  | jump t => exact Nat.le_trans h (Nat.zero_le _)
  | nought b t => exact ⟨h.1, Nat.le_trans h.2 (Nat.zero_le _)⟩
  | _ => exact h
def spUnit (K : PySem.W.Frag) : Sp := fun vs H Q _ => ∃ (l q hd : Addr) (ns : List Int) (y : V) (h : Str × Int × Int) (hxs : List V) (hs : List (Str × Int × Int)) (many : Nat) (ts : List Str), vs = [.ref l, y, .ref hd, .int (many : Int)] ∧ Feed K H l q ns ∧ Dp K (del H l) y (headD h) ∧
  SqL K (del H l) hd hxs ∧ DpAll K (del H l) hxs (hs.map headD) ∧ 0 < hs.length ∧ hs.length ≤ 10 ∧ (∀ x ∈ hs, x.1 ∈ ts) ∧ 1 ≤ h.2.1 ∧ h.2.1 ≤ 16 ∧ (h.2.2 = 0 ∨ h.2.2 = 1) ∧ h.1 ∈ ts ∧ 1 ≤ many ∧ many ≤ 1000 ∧
  ∀ (p : Addr) (xs : List V) (H' : Hp) (us : List Ro), Feed K H' l q ns → Same (del H l) (del H' l) → H p = none → H' p = some (.lst xs) → p ≠ l → DpAll K (del H' l) xs (us.map Ro.d) → (∀ u ∈ us, u.fit (many - 1) ts) → us.length ≤ 10 → Q (.ref p) H'
theorem sqLl {K : PySem.W.Frag} {H : Hp} {l p : Addr} {xs : List V} (n : p ≠ l) : SqL K (del (upd H p (.lst xs)) l) p xs := SqL.of (by rw [del_ne n, upd_same])
section
variable {P : Program} {w : World} {K : PySem.W.Frag} {mg : Str → Option Value} {base : Heap}
theorem ok_unit (T : Txt K mg) : FnOk P w K mg base CX0 3 T.f__law_unit T.d__law_unit ["_law_feed_here", "_law_head", "_law_heads", "_law_many"] (spUnit K) := by
  have nd := sc__law_unit.nd
  refine T.F__law_unit.ok sc__law_unit (fun vs H Q E h => ?_) (fun cdv A outer s H vs Q E hr h => ?_)
  · obtain ⟨l, q, hd, ns, y, h, hxs, hs, many, ts, rfl, _⟩ := h
    rfl
  obtain ⟨l, q, hd, ns, y, ⟨tt, own, g⟩, hxs, hs, many, ts, rfl, hf, hy, hh, hhx, hh0, hh1, hht, ho1, ho2, hg, ht, hm1, hm2, k⟩ := h
  have G__law_draw : FnOk P w K mg base CX0 1 _ _ _ (spTake K) := ok_draw T
  have hr__law_draw := hr.mono (show 1 ≤ 2 by omega)
  have G__law_any : FnOk P w K mg base CX0 2 _ _ _ (spAny K) := ok_any T
  have hr__law_any := hr
  have G__law_ring_call : FnOk P w K mg base CX0 2 _ _ _ (spRing K) := ok_ring T
  have hr__law_ring_call := hr
  refine ⟨_, (pss_cons (ps_asg (pv 1) (pg_tup rfl (pgs_cons (pg_name (i := 4) nd rfl (Or.inl rfl)) (pgs_cons (pg_name (i := 5) nd rfl (Or.inl rfl)) (pgs_cons (pg_name (i := 6) nd rfl (Or.inl rfl)) pgs_nil)))))
      (pss_cons (ps_asg (pe_tup (pa_cons (pe_call G__law_draw hr__law_draw rfl T.m__law_draw T.k__law_draw T.b__law_draw .nil pass0 (pa_cons (pv 0) (pa_cons (pv 5) pa_nil))) (pa_cons (pe_call G__law_draw hr__law_draw rfl T.m__law_draw T.k__law_draw T.b__law_draw .nil pass0 (pa_cons (pv 0) (pa_cons (pv 5) pa_nil))) (pa_cons (pe_call G__law_draw hr__law_draw rfl T.m__law_draw T.k__law_draw T.b__law_draw .nil pass0 (pa_cons (pv 0) (pa_cons (pv 5) pa_nil))) (pa_cons (pe_call G__law_draw hr__law_draw rfl T.m__law_draw T.k__law_draw T.b__law_draw .nil pass0 (pa_cons (pv 0) (pa_cons pe_int pa_nil))) pa_nil))))) (pg_tup rfl (pgs_cons (pg_name (i := 7) nd rfl (Or.inl rfl)) (pgs_cons (pg_name (i := 8) nd rfl (Or.inl rfl)) (pgs_cons (pg_name (i := 9) nd rfl (Or.inl rfl)) (pgs_cons (pg_name (i := 10) nd rfl (Or.inl rfl)) pgs_nil))))))
      (pss_cons (ps_if (pt_cmpR op_eq (pv 10) pe_int (nomark _)) (pss_one (ps_ret (pe_lst (pa_cons (pe_tup (pa_cons pe_str (pa_cons (pv 7) (pa_cons (pe_call G__law_any hr__law_any rfl T.m__law_any T.k__law_any T.b__law_any .nil pass0 (pa_cons (pv 0) (pa_cons (pe_lst (pa_cons pe_int (pa_cons pe_int (pa_cons pe_int (pa_cons (pe_call G__law_draw hr__law_draw rfl T.m__law_draw T.k__law_draw T.b__law_draw .nil pass0 (pa_cons (pv 0) (pa_cons pe_int pa_nil))) pa_nil))))) pa_nil))) pa_nil)))) pa_nil)))) pss_nil)
      (pss_cons (ps_if (pt_cmpR op_lt (pv 10) pe_int (nomark _)) (pss_one (ps_ret (pe_lst (pa_cons (pe_tup (pa_cons (pe_call G__law_any hr__law_any rfl T.m__law_any T.k__law_any T.b__law_any .nil pass0 (pa_cons (pv 0) (pa_cons (pe_lst (pa_cons pe_str (pa_cons pe_str pa_nil))) pa_nil))) (pa_cons (pv 7) (pa_cons (pv 8) pa_nil)))) pa_nil)))) pss_nil)
      (pss_cons (ps_if (pt_cmpR op_lt (pv 10) pe_int (nomark _)) (pss_one (ps_ret (pe_lst (pa_cons (pe_tup (pa_cons (pe_call G__law_any hr__law_any rfl T.m__law_any T.k__law_any T.b__law_any .nil pass0 (pa_cons (pv 0) (pa_cons (pe_lst (pa_cons pe_str (pa_cons pe_str (pa_cons pe_str (pa_cons pe_str (pa_cons pe_str pa_nil)))))) pa_nil))) (pa_cons (pv 7) (pa_cons (pv 8) (pa_cons (pv 9) pa_nil))))) pa_nil)))) pss_nil)
      (pss_cons (ps_if (pt_cmpR op_lt (pv 10) pe_int (nomark _)) (pss_one (ps_ret (pe_lst (pa_cons (pe_tup (pa_cons (pe_call G__law_any hr__law_any rfl T.m__law_any T.k__law_any T.b__law_any .nil pass0 (pa_cons (pv 0) (pa_cons (pe_lst (pa_cons pe_str (pa_cons pe_str pa_nil))) pa_nil))) (pa_cons (pv 7) (pa_cons (pv 8) (pa_cons (pv 9) (pa_cons (pe_call G__law_draw hr__law_draw rfl T.m__law_draw T.k__law_draw T.b__law_draw .nil pass0 (pa_cons (pv 0) (pa_cons pe_int pa_nil))) pa_nil)))))) pa_nil)))) pss_nil)
      (pss_cons (ps_if (pt_cmpR op_lt (pv 10) pe_int (nomark _)) (pss_one (ps_ret (pe_ifExp (pt_cmpR op_eq (pv 10) pe_int (nomark _)) (pe_lst (pa_cons (pe_tup (pa_cons pe_str (pa_cons (pv 7) pa_nil))) pa_nil)) (pe_lst (pa_cons (pe_tup (pa_cons pe_str pa_nil)) pa_nil))))) pss_nil)
      (pss_cons (ps_if (pt_cmpR op_eq (pv 10) pe_int (nomark _)) (pss_one (ps_ret (pe_lst (pa_cons (pe_tup (pa_cons pe_str (pa_cons (pe_ix ix_tup (pe_call G__law_any hr__law_any rfl T.m__law_any T.k__law_any T.b__law_any .nil pass0 (pa_cons (pv 0) (pa_cons (pv 2) pa_nil))) pe_int (fun _ _ => rfl)) (pa_cons (pe_call G__law_draw hr__law_draw rfl T.m__law_draw T.k__law_draw T.b__law_draw .nil pass0 (pa_cons (pv 0) (pa_cons pe_int pa_nil))) pa_nil)))) pa_nil)))) pss_nil)
      (pss_cons (ps_if (pt_cmpR op_lt (pv 10) pe_int (nomark _)) (pss_one (ps_ret (pe_call G__law_ring_call hr__law_ring_call rfl T.m__law_ring_call T.k__law_ring_call T.b__law_ring_call .nil pass0 (pa_cons (pv 0) (pa_cons (pv 1) pa_nil))))) pss_nil)
      (pss_cons (ps_par (i := 11) (j := 12) rfl nd rfl rfl (by decide) rfl rfl (pa_cons (pe_tup (pa_cons pe_str (pa_cons (pe_call G__law_draw hr__law_draw rfl T.m__law_draw T.k__law_draw T.b__law_draw .nil pass0 (pa_cons (pv 0) (pa_cons (pv 3) pa_nil))) pa_nil))) (pa_cons (pe_tup (pa_cons pe_str (pa_cons (pv 7) (pa_cons (pe_call G__law_draw hr__law_draw rfl T.m__law_draw T.k__law_draw T.b__law_draw .nil pass0 (pa_cons (pv 0) (pa_cons (pv 3) pa_nil))) pa_nil)))) pa_nil)) (by rfl))
      (pss_one (ps_ret (pe_ifExp (pt_cmpR op_lt (pv 10) pe_int (nomark _)) (pe_lst (pa_cons (pv 11) pa_nil)) (pe_ifExp (pt_cmpR op_lt (pv 10) pe_int (nomark _)) (pe_lst (pa_cons (pv 12) pa_nil)) (pe_lst (pa_cons (pv 12) (pa_cons (pv 11) pa_nil))))))))))))))))), ?_⟩
  have ho1 : 1 ≤ own := ho1
  have ho2 : own ≤ 16 := ho2
  have hg : g = 0 ∨ g = 1 := hg
  have ht : tt ∈ ts := ht
  obtain ⟨za, zs, rfl, hza, hzs⟩ := tup_inv hy
  obtain rfl : zs = [.str tt, .int own, .int g] := by
    cases hzs with
    | cons a1 r1 => cases r1 with
      | cons a2 r2 => cases r2 with
        | cons a3 r3 => cases r3; cases a1; cases a2; cases a3; rfl
  refine ⟨_, rfl, za, _, rfl, seqT_same (del_le H l) hza, rfl, _, _, rfl, _, _, rfl, _, _, rfl, rfl, ?_⟩
  refine ⟨_, rfl, _, rfl, l, own, q, ns, rfl, hf, by omega, by omega, fun r H1 r0 r1 g1 k1 => ?_⟩
  have f1 := (FI.ref hf).draw g1 k1
  refine ⟨_, rfl, _, rfl, l, own, q, ns, rfl, f1.f, by omega, by omega, fun s' H2 s0 s1 g2 k2 => ?_⟩
  have f2 := f1.draw g2 k2
  refine ⟨_, rfl, _, rfl, l, own, q, ns, rfl, f2.f, by omega, by omega, fun t H3 t0 t1 g3 k3 => ?_⟩
  have f3 := f2.draw g3 k3
  refine ⟨_, rfl, l, 20, q, ns, rfl, f3.f, by omega, by omega, fun way H4 w0 w1 g4 k4 => ?_⟩
  have f4 := f3.draw g4 k4
  refine ⟨(by show 4 ≤ sizeLine; decide), fun p4 hp4 => ?_⟩
  have f5 := FI.new hf f4 hp4 (.tup [.int r, .int s', .int t, .int way])
  have e5 : SqT K (upd H4 p4 (.tup [.int r, .int s', .int t, .int way])) p4 [.int r, .int s', .int t, .int way] := SqT.of upd_same
  generalize upd H4 p4 (.tup [.int r, .int s', .int t, .int way]) = H5 at f5 e5 ⊢
  refine ⟨p4, _, rfl, e5, rfl, _, _, rfl, _, _, rfl, _, _, rfl, _, _, rfl, rfl, ?_⟩
  have rr : reg r := ⟨r0, by omega⟩
  have rs : reg s' := ⟨s0, by omega⟩
  have rt : reg t := ⟨t0, by omega⟩
  have fin : ∀ (H6 : Hp) (p p2 : Addr) (vs : List V) (u : Ro), FI K H l q ns H6 → H6 p = none → (∀ G, DpAll K G vs (.str u.verb :: u.args)) → (upd H6 p (.tup vs)) p2 = none → u.fit (many - 1) ts → Q (.ref p2) (upd (upd H6 p (.tup vs)) p2 (.lst [.ref p])) := fun H6 p p2 vs u f6 hp hd hp2 hu => by
    have np := new_ne f6.f hp
    have f7 := FI.new hf f6 hp (.tup vs)
    have f8 := FI.new hf f7 hp2 (.lst [.ref p])
    refine k p2 [.ref p] _ [u] f8.f f8.s (f7.fresh hp2) upd_same (new_ne f7.f hp2) (.cons ?_ .nil) (fun x m => by rw [List.mem_singleton.mp m]; exact hu) (by show 1 ≤ 10; decide)
    exact dpl_new (.tup (sqTl np) (hd _)) hp2 _
  -- number
  refine ⟨_, rfl, rfl, _, rfl, ?_⟩
  rw [int_dec]
  refine ite2 (fun c => ?_) (fun c => ?_)
  · refine ⟨_, rfl, _, rfl, _, rfl, l, 65536, q, ns, rfl, f5.f, by decide, by decide, fun d H6 d0 d1 g6 k6 => ?_⟩
    have f6 := f5.draw g6 k6
    refine ⟨(by show 4 ≤ sizeLine; decide), fun pb hpb => ?_⟩
    have f7 := FI.new hf f6 hpb (.lst [.int 0, .int 65535, .int 256, .int d])
    refine ⟨l, pb, _, q, ns, rfl, f7.f, sqLl (new_ne f6.f hpb), (by show 0 < 4; decide), (by show 4 ≤ 1000; decide), fun y H8 hy f8 k8 => ?_⟩
    have f8 := f7.draw f8 k8
    obtain ⟨m, rfl, ms⟩ : ∃ m, y = V.int m ∧ sml m := by
      rcases List.mem_cons.mp hy with rfl | hy
      · exact ⟨_, rfl, by decide, by decide⟩
      rcases List.mem_cons.mp hy with rfl | hy
      · exact ⟨_, rfl, by decide, by decide⟩
      rcases List.mem_cons.mp hy with rfl | hy
      · exact ⟨_, rfl, by decide, by decide⟩
      exact ⟨_, List.mem_singleton.mp hy, d0, by omega⟩
    refine ⟨(by show 3 ≤ sizeLine; decide), fun p hp => ⟨(by show 1 ≤ sizeLine; decide), fun p2 hp2 => ?_⟩⟩
    exact fin H8 p p2 _ (.num r m) f8 hp (fun G => .cons (.str _) (.cons (.int _) (.cons (.int _) .nil))) hp2 ⟨rr, ms⟩
  -- move, swap
  refine ⟨_, rfl, _, _, rfl, rfl, _, rfl, ?_⟩
  refine ite2 (fun c => ?_) (fun c => ?_)
  · refine ⟨_, rfl, (by show 2 ≤ sizeLine; decide), fun pb hpb => ?_⟩
    have f7 := FI.new hf f5 hpb (.lst [.str "move", .str "swap"])
    refine ⟨l, pb, _, q, ns, rfl, f7.f, sqLl (new_ne f5.f hpb), (by show 0 < 2; decide), (by show 2 ≤ 1000; decide), fun y H8 hy f8 k8 => ?_⟩
    have f8 := f7.draw f8 k8
    obtain ⟨m, rfl⟩ : ∃ m : Bool, y = V.str (Ro.two m 0 0).verb := by
      rcases List.mem_cons.mp hy with rfl | hy
      · exact ⟨true, rfl⟩
      exact ⟨false, List.mem_singleton.mp hy⟩
    refine ⟨_, rfl, _, rfl, (by show 3 ≤ sizeLine; decide), fun p hp => ⟨(by show 1 ≤ sizeLine; decide), fun p2 hp2 => ?_⟩⟩
    exact fin H8 p p2 _ (.two m r s') f8 hp (fun G => .cons (.str _) (.cons (.int _) (.cons (.int _) .nil))) hp2 ⟨rr, rs⟩
  -- operations without a place
  refine ⟨_, rfl, _, _, rfl, rfl, _, rfl, ?_⟩
  refine ite2 (fun c => ?_) (fun c => ?_)
  · refine ⟨_, rfl, (by show 5 ≤ sizeLine; decide), fun pb hpb => ?_⟩
    have f7 := FI.new hf f5 hpb (.lst [.str "add", .str "sub", .str "mul", .str "less", .str "same"])
    refine ⟨l, pb, _, q, ns, rfl, f7.f, sqLl (new_ne f5.f hpb), (by show 0 < 5; decide), (by show 5 ≤ 1000; decide), fun y H8 hy f8 k8 => ?_⟩
    have f8 := f7.draw f8 k8
    obtain ⟨m, rfl, n3, n4⟩ : ∃ m : Fin 7, y = V.str (opV m) ∧ m ≠ 3 ∧ m ≠ 4 := by
      rcases List.mem_cons.mp hy with rfl | hy
      · exact ⟨0, rfl, by decide, by decide⟩
      rcases List.mem_cons.mp hy with rfl | hy
      · exact ⟨1, rfl, by decide, by decide⟩
      rcases List.mem_cons.mp hy with rfl | hy
      · exact ⟨2, rfl, by decide, by decide⟩
      rcases List.mem_cons.mp hy with rfl | hy
      · exact ⟨5, rfl, by decide, by decide⟩
      exact ⟨6, List.mem_singleton.mp hy, by decide, by decide⟩
    refine ⟨_, rfl, _, rfl, _, rfl, (by show 4 ≤ sizeLine; decide), fun p hp => ⟨(by show 1 ≤ sizeLine; decide), fun p2 hp2 => ?_⟩⟩
    exact fin H8 p p2 _ (.op m r s' t none) f8 hp (fun G => .cons (.str _) (.cons (.int _) (.cons (.int _) (.cons (.int _) .nil)))) hp2 ⟨rr, rs, rt, Iff.intro (fun z => Bool.noConfusion z) (fun z => False.elim (Or.elim z n3 n4)), fun _ z => nomatch z⟩
  -- div, rem
  refine ⟨_, rfl, _, _, rfl, rfl, _, rfl, ?_⟩
  refine ite2 (fun c => ?_) (fun c => ?_)
  · refine ⟨_, rfl, (by show 2 ≤ sizeLine; decide), fun pb hpb => ?_⟩
    have f7 := FI.new hf f5 hpb (.lst [.str "div", .str "rem"])
    refine ⟨l, pb, _, q, ns, rfl, f7.f, sqLl (new_ne f5.f hpb), (by show 0 < 2; decide), (by show 2 ≤ 1000; decide), fun y H8 hy f8 k8 => ?_⟩
    have f8 := f7.draw f8 k8
    obtain ⟨m, rfl, n3⟩ : ∃ m : Fin 7, y = V.str (opV m) ∧ (m = 3 ∨ m = 4) := by
      rcases List.mem_cons.mp hy with rfl | hy
      · exact ⟨3, rfl, .inl rfl⟩
      exact ⟨4, List.mem_singleton.mp hy, .inr rfl⟩
    refine ⟨_, rfl, _, rfl, _, rfl, _, rfl, l, 90000, q, ns, rfl, f8.f, by decide, by decide, fun d H9 d0 d1 g9 k9 => ?_⟩
    have f9 := f8.draw g9 k9
    refine ⟨(by show 5 ≤ sizeLine; decide), fun p hp => ⟨(by show 1 ≤ sizeLine; decide), fun p2 hp2 => ?_⟩⟩
    exact fin H9 p p2 _ (.op m r s' t (some d)) f9 hp (fun G => .cons (.str _) (.cons (.int _) (.cons (.int _) (.cons (.int _) (.cons (.int _) .nil))))) hp2 ⟨rr, rs, rt, Iff.intro (fun _ => n3) (fun _ => rfl), fun n z => by cases z; exact ⟨d0, by omega⟩⟩
  -- tell, beat
  refine ⟨_, rfl, _, _, rfl, rfl, _, rfl, ?_⟩
  refine ite2 (fun c => ?_) (fun c => ?_)
  · refine ⟨_, rfl, rfl, _, rfl, ?_⟩
    refine ite2 (fun c2 => ?_) (fun c2 => ?_)
    · refine ⟨_, rfl, (by show 2 ≤ sizeLine; decide), fun p hp => ⟨(by show 1 ≤ sizeLine; decide), fun p2 hp2 => ?_⟩⟩
      exact fin H5 p p2 _ (.cell 0 r) f5 hp (fun G => .cons (.str _) (.cons (.int _) .nil)) hp2 rr
    · refine ⟨(by show 1 ≤ sizeLine; decide), fun p hp => ⟨(by show 1 ≤ sizeLine; decide), fun p2 hp2 => ?_⟩⟩
      exact fin H5 p p2 _ (.plain true) f5 hp (fun G => .cons (.str _) .nil) hp2 trivial
  -- call
  refine ⟨_, rfl, rfl, _, rfl, ?_⟩
  refine ite2 (fun c => ?_) (fun c => ?_)
  · have hlx : hxs.length = hs.length := by rw [dp_len hhx, List.length_map]
    refine ⟨_, rfl, _, rfl, l, hd, hxs, q, ns, rfl, f5.f, f5.s.seq hh, (by omega), (by omega), fun y H8 hy f8 k8 => ?_⟩
    have f8 := f5.draw f8 k8
    obtain ⟨i, hi, rfl⟩ := List.getElem_of_mem hy
    obtain ⟨d, hd1, _, hd3⟩ := dp_get hhx (List.getElem?_eq_getElem hi)
    obtain ⟨hx, hxm, rfl⟩ := List.mem_map.mp hd1
    obtain ⟨ya, ys, ey, hya, hys⟩ := tup_inv (dp_same f8.s hd3)
    rw [ey]
    obtain ⟨v0, ev, hv0⟩ := dp_nth hys (i := 0) (by show 0 < 3; decide)
    have hv0' : Dp K (del H8 l) v0 (.str hx.1) := hv0
    obtain rfl : v0 = .str hx.1 := by cases hv0'; rfl
    refine ⟨ya, _, _, _, rfl, rfl, seqT_same (del_le H8 l) hya, atI_nat (j := 0) ev, ?_⟩
    refine ⟨_, rfl, l, 70000, q, ns, rfl, f8.f, by decide, by decide, fun d H9 d0 d1 g9 k9 => ?_⟩
    have f9 := f8.draw g9 k9
    refine ⟨(by show 3 ≤ sizeLine; decide), fun p hp => ⟨(by show 1 ≤ sizeLine; decide), fun p2 hp2 => ?_⟩⟩
    exact fin H9 p p2 _ (.call hx.1 d) f9 hp (fun G => .cons (.str _) (.cons (.str _) (.cons (.int _) .nil))) hp2 ⟨hht hx hxm, d0, by omega⟩
  -- ring call
  refine ⟨_, rfl, _, _, rfl, rfl, _, rfl, ?_⟩
  refine ite2 (fun c => ?_) (fun c => ?_)
  · refine ⟨_, rfl, _, rfl, l, q, ns, .ref za, tt, own, g, ts, rfl, f5.f, dp_same f5.s hy, ho1, ho2, hg, ht, fun p xs H8 us f8 k8 hp ep np hx hu hl => ?_⟩
    have f9 := f5.draw f8 k8
    exact k p xs H8 us f9.f f9.s (f5.fresh hp) ep np hx (fun u m => fit_up _ (hu u m)) hl
  -- jumps
  refine ⟨_, rfl, _, rfl, l, (many : Int), q, ns, rfl, f5.f, by omega, by omega, fun j1 H6 j0 j2 g6 k6 => ?_⟩
  have f6 := f5.draw g6 k6
  refine ⟨(by show 2 ≤ sizeLine; decide), fun pj hpj => ?_⟩
  have f7 := FI.new hf f6 hpj (.tup [.str "jump", .int j1])
  have npj := new_ne f6.f hpj
  obtain ⟨j1, rfl⟩ := Int.eq_ofNat_of_zero_le j0
  have dj : Dp K (del (upd H6 pj (.tup [.str "jump", .int (j1 : Int)])) l) (.ref pj) (Ro.jump j1).d := .tup (sqTl npj) (.cons (.str _) (.cons (.int _) .nil))
  generalize upd H6 pj (.tup [.str "jump", .int (j1 : Int)]) = H7 at f7 dj ⊢
  refine ⟨_, rfl, _, rfl, _, rfl, l, (many : Int), q, ns, rfl, f7.f, by omega, by omega, fun i1 H8 i0 i2 g8 k8 => ?_⟩
  have f8 := f7.draw g8 k8
  have dj8 := dp_same k8 dj
  refine ⟨(by show 3 ≤ sizeLine; decide), fun pt hpt => ⟨_, _, rfl, ?_⟩⟩
  have f9 := FI.new hf f8 hpt (.tup [.str "nought", .int r, .int i1])
  have npt := new_ne f8.f hpt
  obtain ⟨i1, rfl⟩ := Int.eq_ofNat_of_zero_le i0
  have dt : Dp K (del (upd H8 pt (.tup [.str "nought", .int r, .int (i1 : Int)])) l) (.ref pt) (Ro.nought r i1).d := .tup (sqTl npt) (.cons (.str _) (.cons (.int _) (.cons (.int _) .nil)))
  have dj9 := dpl_new dj8 hpt (.tup [.str "nought", .int r, .int (i1 : Int)])
  generalize upd H8 pt (.tup [.str "nought", .int r, .int (i1 : Int)]) = H9 at f9 dt dj9 ⊢
  have fj : (Ro.jump j1).fit (many - 1) ts := by show j1 ≤ many - 1; omega
  have ft : (Ro.nought r i1).fit (many - 1) ts := ⟨rr, by omega⟩
  refine ⟨_, rfl, _, _, rfl, rfl, _, rfl, ?_⟩
  refine ite2 (fun c => ?_) (fun c => ?_)
  · refine ⟨_, rfl, (by show 1 ≤ sizeLine; decide), fun p hp => ?_⟩
    have fA := FI.new hf f9 hp (.lst [.ref pj])
    exact k p [.ref pj] _ [.jump j1] fA.f fA.s (f9.fresh hp) upd_same (new_ne f9.f hp) (.cons (dpl_new dj9 hp _) .nil) (fun x m => by rw [List.mem_singleton.mp m]; exact fj) (by show 1 ≤ 10; decide)
  · refine ⟨_, rfl, _, _, rfl, rfl, _, rfl, ?_⟩
    refine ite2 (fun c => ?_) (fun c => ?_)
    · refine ⟨_, rfl, (by show 1 ≤ sizeLine; decide), fun p hp => ?_⟩
      have fA := FI.new hf f9 hp (.lst [.ref pt])
      exact k p [.ref pt] _ [.nought r i1] fA.f fA.s (f9.fresh hp) upd_same (new_ne f9.f hp) (.cons (dpl_new dt hp _) .nil) (fun x m => by rw [List.mem_singleton.mp m]; exact ft) (by show 1 ≤ 10; decide)
    · refine ⟨_, rfl, _, rfl, (by show 2 ≤ sizeLine; decide), fun p hp => ?_⟩
      have fA := FI.new hf f9 hp (.lst [.ref pt, .ref pj])
      refine k p [.ref pt, .ref pj] _ [.nought r i1, .jump j1] fA.f fA.s (f9.fresh hp) upd_same (new_ne f9.f hp) (.cons (dpl_new dt hp _) (.cons (dpl_new dj9 hp _) .nil)) (fun x m => ?_) (by show 2 ≤ 10; decide)
      rcases List.mem_cons.mp m with rfl | m
      · exact ft
      · rw [List.mem_singleton.mp m]; exact fj
end
end Lk

set_option Elab.async false
set_option linter.all false
set_option maxRecDepth 100000
set_option pp.maxSteps 1500
set_option maxHeartbeats 4000000
namespace Lk
open PySem PySem.Spec PyProof.Rows L2
def unitD (rs : List Ro) : PyData := .list (rs.map Ro.d)
structure UN (K : PySem.W.Frag) (H : Hp) (l pu : Addr) (us : List (List Ro)) : Prop where
  ne : pu ≠ l
  ex : ∃ uvs, H pu = some (.lst uvs) ∧ DpAll K (del (del H l) pu) uvs (us.map unitD)
section
variable {K : PySem.W.Frag} {H H' : Hp} {l pu p : Addr} {us : List (List Ro)}
theorem UN.draw (u : UN K H l pu us) (e : Same (del H l) (del H' l)) : UN K H' l pu us := by
  obtain ⟨n, uvs, h1, h2⟩ := u
  exact ⟨n, uvs, Same.off e n h1, dpAll_same (same_del pu e) h2⟩
theorem UN.new (u : UN K H l pu us) (h : H p = none) (o : HO) : UN K (upd H p o) l pu us := u.draw (same_del l (same_new h o))
theorem unit_off {rs : List Ro} {uvs : List V} (h : Dp K (del H l) (.ref p) (unitD rs)) (n : p ≠ pu) (npl : pu ≠ l) (hp : H pu = some (.lst uvs)) : Dp K (del (del H l) pu) (.ref p) (unitD rs) := by
  cases h with
  | lst h a =>
    refine .lst (xs := _) ?_ (dpAll_off (l := pu) (ys := uvs) (by rw [del_ne npl]; exact hp) (noLs_ro rs) a)
    rcases h with (h | ⟨o, h⟩) | h
    · exact .inl (.inl (by rw [del_ne n]; exact h))
    · exact .inl (.inr ⟨o, by rw [del_ne n]; exact h⟩)
    · exact .inr h
theorem del_comm (H : Hp) (a b : Addr) : del (del H a) b = del (del H b) a := by
  funext c
  by_cases h1 : c = a
  · subst h1
    by_cases h2 : c = b
    · subst h2; rw [del_same]
    · rw [del_ne h2, del_same, del_same]
  · by_cases h2 : c = b
    · subst h2; rw [del_same, del_ne h1, del_same]
    · rw [del_ne h2, del_ne h1, del_ne h1, del_ne h2]
theorem UN.put {rs : List Ro} {uvs : List V} {v : V} (n : pu ≠ l) (h1 : H pu = some (.lst uvs)) (h2 : DpAll K (del (del H l) pu) uvs (us.map unitD)) (hv : Dp K (del (del H l) pu) v (unitD rs)) : UN K (upd H pu (.lst (uvs ++ [v]))) l pu (us ++ [rs]) := by
  refine ⟨n, _, upd_same, ?_⟩
  rw [del_comm, del_upd, del_comm, List.map_append]
  exact dpAll_app h2 hv
theorem UN.at {uvs : List V} (u : UN K H l pu us) (h : H pu = some (.lst uvs)) : DpAll K (del (del H l) pu) uvs (us.map unitD) := by
  obtain ⟨_, uvs', h1, h2⟩ := u
  rw [h] at h1
  obtain rfl := HO.lst.inj (Option.some.inj h1)
  exact h2
end
def sumTo (us : List (List Ro)) : Nat → Nat
  | 0 => 0
  | k + 1 => sumTo us k + (us.getD k []).length
def startsU (us : List (List Ro)) (n : Nat) : List Int := (List.range (n + 1)).map fun k => (sumTo us k : Int)
def Ro.re (f : Nat → Nat) : Ro → Ro
  | .jump t => .jump (f t)
  | .nought b t => .nought b (f t)
  | r => r
theorem sumTo_len (us : List (List Ro)) : ∀ n, n ≤ us.length → sumTo us n = ((us.take n).flatten).length
  | 0, _ => rfl
  | n + 1, h => by
    rw [sumTo, sumTo_len us n (by omega), List.take_succ, List.flatten_append, List.length_append, List.getD_eq_getElem?_getD, List.getElem?_eq_getElem (show n < us.length by omega)]
    simp
theorem sumTo_le (us : List (List Ro)) {n : Nat} (h : n ≤ us.length) : sumTo us n ≤ us.flatten.length := by
  rw [sumTo_len us n h]
  conv => rhs; rw [← List.take_append_drop n us, List.flatten_append, List.length_append]
  omega
theorem fit_re {r : Ro} {n m : Nat} {ts : List Str} {f : Nat → Nat} (h : r.fit n ts) (hf : ∀ t, t ≤ n → f t ≤ m) : (r.re f).fit m ts := by
  cases r with
  | jump t => exact hf t h
  | nought b t => exact ⟨h.1, hf t h.2⟩
  | _ => exact h
theorem re_last {r : Ro} {f : Nat → Nat} (h : r.isJ = true) : ∃ (t : Nat) (ds : List PyData), (PyData.str r.verb :: r.args) = ds ++ [.int t] ∧ (r.re f).d = .tuple (ds ++ [.int ((f t : Nat) : Int)]) ∧ ∀ n ts, r.fit n ts → t ≤ n := by
  cases r with
  | jump t => exact ⟨t, [_], rfl, rfl, fun _ _ h => h⟩
  | nought b t => exact ⟨t, [_, _], rfl, rfl, fun _ _ h => h.2⟩
  | _ => cases h
theorem FI.same {K : PySem.W.Frag} {H H' H2 : Hp} {l q : Addr} {ns : List Int} (f : FI K H l q ns H') (e : Same H' H2) : FI K H l q ns H2 := by
  obtain ⟨⟨a, b, t, h1, h2, h3, h4⟩, s⟩ := f
  exact ⟨⟨a, b, t, e _ _ h1, (same_del l e).seq h2, h3, h4⟩, s.trans (same_del l e)⟩
def spRowsL (K : PySem.W.Frag) : Sp := fun vs H Q _ => ∃ (l q hd mu : Addr) (ns : List Int) (y : V) (h : Str × Int × Int) (hxs : List V) (hs : List (Str × Int × Int)) (must : List Str) (size : Nat) (ts : List Str), vs = [.ref l, y, .ref hd, .ref mu, .int (size : Int)] ∧ Feed K H l q ns ∧ Dp K (del H l) y (headD h) ∧
  SqL K (del H l) hd hxs ∧ DpAll K (del H l) hxs (hs.map headD) ∧ 0 < hs.length ∧ hs.length ≤ 10 ∧ (∀ x ∈ hs, x.1 ∈ ts) ∧ 1 ≤ h.2.1 ∧ h.2.1 ≤ 16 ∧ (h.2.2 = 0 ∨ h.2.2 = 1) ∧ h.1 ∈ ts ∧ SqL K (del H l) mu (must.map V.str) ∧ must.length ≤ 10 ∧ (∀ m ∈ must, m ∈ ts) ∧ size ≤ 100 ∧
  ∀ (z : V) (H' : Hp) (rs : List Ro), Feed K H' l q ns → Same (del H l) (del H' l) → Dp K (del H' l) z (rowsD rs) → rs.length ≤ 2000 → (∀ r ∈ rs, r.fit rs.length ts) → Q z H'
section
variable {P : Program} {w : World} {K : PySem.W.Frag} {mg : Str → Option Value} {base : Heap}
theorem ok_rowsL (T : Txt K mg) : FnOk P w K mg base CX0 4 T.f__law_rows T.d__law_rows ["_law_feed_here", "_law_head", "_law_heads", "_law_must", "_law_size_here"] (spRowsL K) := by
  have nd := sc__law_rows.nd
  refine T.F__law_rows.ok sc__law_rows (fun vs H Q E h => ?_) (fun cdv A outer s H vs Q E hr h => ?_)
  · obtain ⟨l, q, hd, mu, ns, y, h, hxs, hs, must, size, ts, rfl, _⟩ := h
    rfl
  obtain ⟨l, q, hd, mu, ns, y, hh, hxs, hs, must, size, ts, rfl, hf, hy, hhd, hhx, hh0, hh1, hht, ho1, ho2, hg, ht, hmu, hml, hmt, hsz, k⟩ := h
  have G__law_draw : FnOk P w K mg base CX0 1 _ _ _ (spTake K) := ok_draw T
  have hr__law_draw := hr.mono (show 1 ≤ 3 by omega)
  have G__law_unit : FnOk P w K mg base CX0 3 _ _ _ (spUnit K) := ok_unit T
  have hr__law_unit := hr
  refine ⟨_, (pss_cons (ps_par (i := 5) (j := 6) rfl nd rfl rfl (by decide) rfl rfl (pa_cons (pe_lc (own := [("_law_name", 12)]) (g := gName 12) (tt := tYes) (by rfl) nd (pi_list (pv 3)) (blkOk_by (own := [("_law_name", 12)]) (N := sl__law_rows) (sc := defScope s__law_rows) (by decide +kernel)) (fun _ _ _ _ _ => pg_name (i := 12) nd rfl (Or.inl rfl)) (fun _ _ _ _ _ => pts_nil) (fun _ _ _ _ _ => (pe_lst (pa_cons (pe_tup (pa_cons pe_str (pa_cons (pv 12) (pa_cons (pe_call G__law_draw hr__law_draw rfl T.m__law_draw T.k__law_draw T.b__law_draw .nil pass0 (pa_cons (pv 0) (pa_cons pe_int pa_nil))) pa_nil)))) pa_nil)))) (pa_cons (pe_op op_add (pe_op op_add (pe_callB call_len_seq (by rfl) T.z_len PySem.boot_len (pa_cons (pv 3) pa_nil)) (pv 4)) pe_int) pa_nil)) (by rfl))
      (pss_cons (ps_for PassesOwn.never rfl (pi_range1 (by rfl) T.z_range (pa_cons (pv 4) pa_nil)) (pg_name (i := 7) nd rfl (Or.inl rfl))
      (pss_one (ps_expr (pe_bm PySem.F.plainAttrs_list PySem.F.slot_list_append PySem.F.type_list_append mt_append (pv 5) (pa_cons (pe_call G__law_unit hr__law_unit rfl T.m__law_unit T.k__law_unit T.b__law_unit .nil pass0 (pa_cons (pv 0) (pa_cons (pv 1) (pa_cons (pv 2) (pa_cons (pv 6) pa_nil))))) pa_nil)))))
      (pss_cons (ps_if (pt_cmpR op_eq (pe_call G__law_draw hr__law_draw rfl T.m__law_draw T.k__law_draw T.b__law_draw .nil pass0 (pa_cons (pv 0) (pa_cons pe_int pa_nil))) pe_int (nomark _)) (pss_one (ps_set (i := 5) nd rfl (Or.inl rfl) (pe_op op_cat (pe_slice sl_list (pv 5) (po_some (pv 4)) po_none) (pe_slice sl_list (pv 5) po_none (po_some (pv 4)))))) pss_nil)
      (pss_cons (ps_expr (pe_bm PySem.F.plainAttrs_list PySem.F.slot_list_append PySem.F.type_list_append mt_append (pv 5) (pa_cons (pe_ifExp (pt_cmpR op_eq (pe_call G__law_draw hr__law_draw rfl T.m__law_draw T.k__law_draw T.b__law_draw .nil pass0 (pa_cons (pv 0) (pa_cons pe_int pa_nil))) pe_int (nomark _)) (pe_lst (pa_cons (pe_tup (pa_cons pe_str pa_nil)) pa_nil)) (pe_lst (pa_cons (pe_tup (pa_cons pe_str (pa_cons (pe_call G__law_draw hr__law_draw rfl T.m__law_draw T.k__law_draw T.b__law_draw .nil pass0 (pa_cons (pv 0) (pa_cons (pv 6) pa_nil))) pa_nil))) pa_nil))) pa_nil)))
      (pss_cons (ps_par (i := 8) (j := 9) rfl nd rfl rfl (by decide) rfl rfl (pa_cons (pe_lst (pa_cons pe_int pa_nil)) (pa_cons (pe_lst pa_nil) pa_nil)) (by rfl))
      (pss_cons (ps_for PassesOwn.never rfl (pi_list (pv 5)) (pg_name (i := 10) nd rfl (Or.inl rfl))
      (pss_one (ps_expr (pe_bm PySem.F.plainAttrs_list PySem.F.slot_list_append PySem.F.type_list_append mt_append (pv 8) (pa_cons (pe_op op_add (pe_ix ix_list (pv 8) (pe_un un_neg pe_int) (fun _ _ => rfl)) (pe_callB call_len_seq (by rfl) T.z_len PySem.boot_len (pa_cons (pv 10) pa_nil))) pa_nil)))))
      (pss_cons (ps_for PassesOwn.never rfl (pi_list (pv 5)) (pg_name (i := 10) nd rfl (Or.inl rfl))
      (pss_one (ps_for PassesOwn.never rfl (pi_list (pv 10)) (pg_name (i := 11) nd rfl (Or.inl rfl))
      (pss_one (ps_expr (pe_bm PySem.F.plainAttrs_list PySem.F.slot_list_append PySem.F.type_list_append mt_append (pv 9) (pa_cons (pe_ifExp (pt_cmpR op_in_seq (pe_ix ix_tup (pv 11) pe_int (fun _ _ => rfl)) (pe_tup (pa_cons pe_str (pa_cons pe_str pa_nil))) (by rfl)) (pe_op op_catS (pe_slice sl_tupS (pv 11) po_none (po_some (pe_un un_neg pe_int))) (pe_tup (pa_cons (pe_ix ix_list (pv 8) (pe_ix ix_tup (pv 11) (pe_un un_neg pe_int) (fun _ _ => rfl)) (fun _ _ => rfl)) pa_nil))) (pv 11)) pa_nil)))))))
      (pss_one (ps_ret (pe_callTy call_tuple_of (by rfl) T.z_tuple (by decide +kernel) (pa_cons (pv 9) pa_nil))))))))))), ?_⟩
  refine ⟨_, rfl, mu, rfl, ⟨_, (del_le H l).seq hmu⟩, fun D hD => ?_⟩
  have nD : D ≠ l := new_ne hf hD
  refine lc_list (K := K) (a := mu) (xs := must.map V.str) (fun i H' => FI K H l q ns H' ∧ ∃ us, UN K H' l D us ∧ us.length = i ∧ ∀ u ∈ us, u.length ≤ 10 ∧ ∀ r ∈ u, r.fit (must.length + size) ts) ?_ ?_ ?_ ?_
  · exact ⟨FI.new hf (FI.ref hf) hD _, [], ⟨nD, [], upd_same, .nil⟩, rfl, fun _ m => nomatch m⟩
  · rintro i H' _ ⟨f, _⟩
    exact (del_le H' l).seq (f.s.seq hmu)
  · rintro i x H1 hix ⟨f1, us, u1, ul, uf⟩
    obtain ⟨nm, hnm, rfl⟩ : ∃ nm, nm ∈ must ∧ x = V.str nm := by
      have := List.mem_of_getElem? hix
      obtain ⟨nm, m, rfl⟩ := List.mem_map.mp this
      exact ⟨nm, m, rfl⟩
    have hi : i < must.length := by have := (List.getElem?_eq_some_iff.mp hix).1; rwa [List.length_map] at this
    refine ⟨rfl, ?_⟩
    refine ⟨_, rfl, _, rfl, l, 9, q, ns, rfl, f1.f, by decide, by decide, fun d H2 d0 d1 g2 k2 => ?_⟩
    have f2 := f1.draw g2 k2
    have u2 := u1.draw k2
    refine ⟨(by show 3 ≤ sizeLine; decide), fun p hp => ?_⟩
    have np := new_ne f2.f hp
    have f3 := FI.new hf f2 hp (.tup [.str "call", .str nm, .int d])
    have u3 := u2.new hp (.tup [.str "call", .str nm, .int d])
    have dc : Dp K (del (upd H2 p (.tup [.str "call", .str nm, .int d])) l) (.ref p) (Ro.call nm d).d := .tup (sqTl np) (.cons (.str _) (.cons (.str _) (.cons (.int _) .nil)))
    generalize upd H2 p (.tup [.str "call", .str nm, .int d]) = H3 at f3 u3 dc ⊢
    refine ⟨(by show 1 ≤ sizeLine; decide), fun p2 hp2 => ?_⟩
    have np2 := new_ne f3.f hp2
    have f4 := FI.new hf f3 hp2 (.lst [.ref p])
    have u4 := u3.new hp2 (.lst [.ref p])
    have dc4 : Dp K (del (upd H3 p2 (.lst [.ref p])) l) (.ref p2) (unitD [.call nm d]) := .lst (sqLl np2) (.cons (dpl_new dc hp2 _) .nil)
    have nDp : p2 ≠ D := fun z => by
      obtain ⟨_, uvs, h, _⟩ := u3
      rw [← z, hp2] at h; cases h
    generalize upd H3 p2 (.lst [.ref p]) = H4 at f4 u4 dc4 ⊢
    obtain ⟨_, uvs, h1, h2⟩ := u4
    refine ⟨uvs, h1, (by rw [dp_len h2, List.length_map, ul]; exact szl (by omega)), FI.put hf f4 hD _, us ++ [[.call nm d]], UN.put nD h1 h2 (unit_off dc4 nDp nD h1), (by rw [List.length_append, ul]; rfl), fun u m => ?_⟩
    rcases List.mem_append.mp m with m | m
    · exact uf u m
    · rw [List.mem_singleton.mp m]
      exact ⟨by show 1 ≤ 10; decide, fun r m => by rw [List.mem_singleton.mp m]; exact ⟨hmt nm hnm, d0, by omega⟩⟩
  · rintro H1 ⟨f1, us, u1, ul, uf⟩
    rw [List.length_map] at ul
    refine ⟨_, rfl, mu, _, rfl, .inl ((del_le H1 l).seq (f1.s.seq hmu)), _, rfl, _, _, rfl, rfl, _, _, rfl, rfl, _, _, rfl, ?_⟩
    have hmany : ((((must.map V.str).length : Int) + (size : Int)) + 1) = ((must.length + size + 1 : Nat) : Int) := by rw [List.length_map]; omega
    refine ⟨_, rfl, (size : Int), rfl, by omega, by omega, ?_⟩
    refine for_range (lo := 0) (n := (size : Int).toNat) (fun i σ H' => ∃ (o7 : Option V) (us : List (List Ro)), σ = [some (.ref l), some y, some (.ref hd), some (.ref mu), some (.int (size : Int)), some (.ref D), some (.int ((must.length + size + 1 : Nat) : Int)), o7, none, none, none, none, none] ∧ FI K H l q ns H' ∧ UN K H' l D us ∧ us.length = must.length + i ∧ ∀ u ∈ us, u.length ≤ 10 ∧ ∀ r ∈ u, r.fit (must.length + size) ts) ?_ ?_ ?_
    · exact ⟨none, us, (by rw [← hmany]; rfl), f1, u1, by omega, uf⟩
    · rintro i σ H2 hi ⟨o7, us, rfl, f2, u2, ul, uf⟩
      have u2' := u2
      obtain ⟨_, uvs, h1, h2⟩ := u2'
      refine ⟨_, rfl, .inl ⟨rfl, _, SqL.of h1⟩, _, rfl, _, rfl, _, rfl, _, rfl, ?_⟩
      refine ⟨l, q, hd, ns, y, hh, hxs, hs, must.length + size + 1, ts, rfl, f2.f, dp_same f2.s hy, f2.s.seq hhd, dpAll_same f2.s hhx, hh0, hh1, hht, ho1, ho2, hg, ht, by omega, by omega, fun p xs H3 rws g3 k3 hp ep np hx hu hul => ?_⟩
      have f3 := f2.draw g3 k3
      have u3 := u2.draw k3
      have h3 : H3 D = some (.lst uvs) := Same.off k3 nD h1
      have nDp : p ≠ D := fun z => by rw [z, h1] at hp; cases hp
      have du : Dp K (del H3 l) (.ref p) (unitD rws) := .lst (SqL.of (by rw [del_ne np]; exact ep)) hx
      refine ⟨D, uvs, _, rfl, rfl, h3, (by rw [dp_len h2, List.length_map, ul]; exact szl (by omega)), ?_⟩
      refine ⟨_, us ++ [rws], rfl, FI.put hf f3 hD _, UN.put nD h3 (u3.at h3) (unit_off du nDp nD h3), (by rw [List.length_append, ul]; rfl), fun u m => ?_⟩
      rcases List.mem_append.mp m with m | m
      · exact uf u m
      · rw [List.mem_singleton.mp m]
        exact ⟨hul, hu⟩
    · rintro σ H2 ⟨o7, us, rfl, f2, u2, ul, uf⟩
      rw [show (size : Int).toNat = size by omega] at ul
      dsimp only
      refine seq_mid (t1 := tIfS _ _ _) (fun σ' H' => ∃ (pu : Addr) (us : List (List Ro)), σ' = [some (.ref l), some y, some (.ref hd), some (.ref mu), some (.int (size : Int)), some (.ref pu), some (.int ((must.length + size + 1 : Nat) : Int)), o7, none, none, none, none, none] ∧ FI K H l q ns H' ∧ H pu = none ∧ UN K H' l pu us ∧ us.length = must.length + size ∧ ∀ u ∈ us, u.length ≤ 10 ∧ ∀ r ∈ u, r.fit (must.length + size) ts) ?_ ?_
      · rintro σ' H3 ⟨pu, us, rfl, f3, hpu0, u3, ul, uf⟩
        have npu := u3.ne
        have u3' := u3
        obtain ⟨_, uvs, h1, h2⟩ := u3'
        -- the last unit
        have last : ∀ (H4 : Hp) (p2 : Addr) (us2 : List Ro), FI K H l q ns H4 → UN K H4 l pu us → H4 pu = some (.lst uvs) → p2 ≠ pu → Dp K (del H4 l) (.ref p2) (unitD us2) → us2.length ≤ 10 → (∀ r ∈ us2, r.fit (must.length + size) ts) →
            ∃ URS : List (List Ro), URS.length = must.length + size + 1 ∧ (∀ u ∈ URS, u.length ≤ 10 ∧ ∀ r ∈ u, r.fit (must.length + size) ts) ∧ UN K (upd H4 pu (.lst (uvs ++ [.ref p2]))) l pu URS ∧ FI K H l q ns (upd H4 pu (.lst (uvs ++ [.ref p2]))) := fun H4 p2 us2 f4 u4 h4 n2 d2 l2 ft2 => by
          refine ⟨us ++ [us2], by rw [List.length_append, ul]; rfl, fun u m => ?_, UN.put npu h4 (u4.at h4) (unit_off d2 n2 npu h4), FI.put hf f4 hpu0 _⟩
          rcases List.mem_append.mp m with m | m
          · exact uf u m
          · rw [List.mem_singleton.mp m]; exact ⟨l2, ft2⟩
        have few : uvs.length < sizeLine := by rw [dp_len h2, List.length_map, ul]; exact szl (by omega)
        refine seq_mid (t1 := tDrop _) (fun σ' H' => ∃ (URS : List (List Ro)), σ' = [some (.ref l), some y, some (.ref hd), some (.ref mu), some (.int (size : Int)), some (.ref pu), some (.int ((must.length + size + 1 : Nat) : Int)), o7, none, none, none, none, none] ∧ FI K H l q ns H' ∧ UN K H' l pu URS ∧ URS.length = must.length + size + 1 ∧ ∀ u ∈ URS, u.length ≤ 10 ∧ ∀ r ∈ u, r.fit (must.length + size) ts) ?_ ?_
        · rintro σ' H5 ⟨URS, rfl, f5, u5, Ul, Uf⟩
          obtain ⟨_, uvs, eU, hU⟩ := u5
          have uvl : uvs.length = URS.length := by rw [dp_len hU, List.length_map]
          have hl5 : ∃ kv, H5 l = some (.dK kv) := by obtain ⟨_, _, _, h, _⟩ := f5.f; exact ⟨_, h⟩
          have tot : ∀ n, n ≤ URS.length → sumTo URS n ≤ 10 * n := by
            intro n
            induction n with
            | zero => intro _; exact Nat.le_refl _
            | succ n ih =>
              intro hn
              have a := ih (by omega)
              have b := (Uf _ (show URS.getD n [] ∈ URS by rw [List.getD_eq_getElem?_getD, List.getElem?_eq_getElem (show n < URS.length by omega)]; exact List.getElem_mem _)).1
              rw [sumTo]; omega
          have Ufl : URS.flatten.length ≤ 2000 := by
            have := tot URS.length (Nat.le_refl _)
            rw [sumTo_len URS _ (Nat.le_refl _), List.take_length] at this
            omega
          refine ⟨(by show 1 ≤ sizeLine; decide), fun ps hps => ?_⟩
          have s6 := same_new hps (.lst [.int 0])
          have e6 : (upd H5 ps (.lst [.int 0])) ps = some (.lst (iV (startsU URS 0))) := upd_same
          generalize upd H5 ps (.lst [.int 0]) = H6 at s6 e6 ⊢
          refine ⟨(by show 0 ≤ sizeLine; decide), fun pf hpf => ⟨_, _, rfl, ?_⟩⟩
          have nsf : ps ≠ pf := fun z => by rw [← z, e6] at hpf; cases hpf
          have hpf0 := none_of s6 hpf
          have s7 := s6.trans (same_new hpf (.lst []))
          have e7 := same_new hpf (.lst []) _ _ e6
          have e7f : (upd H6 pf (.lst [])) pf = some (.lst []) := upd_same
          generalize upd H6 pf (.lst []) = H7 at s7 e7 e7f ⊢
          -- what a unit is
          have unit : ∀ i v, uvs[i]? = some v → ∃ a xs, v = .ref a ∧ SqL K H5 a xs ∧ DpAll K H5 xs ((URS.getD i []).map Ro.d) ∧ i < URS.length := fun i v hv => by
            obtain ⟨d, _, e1, h1⟩ := dp_get hU hv
            have hi : i < URS.length := by rw [← uvl]; exact (List.getElem?_eq_some_iff.mp hv).1
            rw [List.getElem?_map, List.getElem?_eq_getElem hi] at e1
            have e2 : unitD (URS.getD i []) = d := by
              rw [List.getD_eq_getElem?_getD, List.getElem?_eq_getElem hi]
              exact Option.some.inj e1
            rw [← e2] at h1
            have h2 := dp_same ((del_le (del H5 l) pu).trans (del_le H5 l)) h1
            cases h2 with
            | lst h a => exact ⟨_, _, rfl, h, a, hi⟩
          refine ⟨_, rfl, pu, rfl, ⟨_, SqL.of (s7 _ _ eU)⟩, ?_⟩
          refine for_list (K := K) (a := pu) (xs := uvs) (fun i σ H' => ∃ o10, σ = [some (.ref l), some y, some (.ref hd), some (.ref mu), some (.int (size : Int)), some (.ref pu), some (.int ((must.length + size + 1 : Nat) : Int)), o7, some (.ref ps), some (.ref pf), o10, none, none] ∧ Same H5 H' ∧ H' ps = some (.lst (iV (startsU URS i))) ∧ H' pf = some (.lst [])) ?_ ?_ ?_ ?_
          · exact ⟨none, rfl, s7, e7, e7f⟩
          · rintro i σ H' _ ⟨_, _, e, _⟩
            exact SqL.of (e _ _ eU)
          · rintro i v σ H8 hv ⟨o10, rfl, e8, es, ef⟩
            obtain ⟨a, xs, rfl, ha, hx, hi⟩ := unit i v hv
            have xl : xs.length = (URS.getD i []).length := by rw [dp_len hx, List.length_map]
            have st : startsU URS (i + 1) = startsU URS i ++ [((sumTo URS i : Nat) : Int) + ((URS.getD i []).length : Int)] := by
              unfold startsU
              rw [List.range_succ, List.map_append, show ([i + 1].map fun k => ((sumTo URS k : Nat) : Int)) = [((sumTo URS i : Nat) : Int) + ((URS.getD i []).length : Int)] by
                show [((sumTo URS i + (URS.getD i []).length : Nat) : Int)] = _
                rw [Int.natCast_add]]
            have last : atI (iV (startsU URS i)) (-1) = some (V.int ((sumTo URS i : Nat) : Int)) := by
              unfold startsU
              rw [List.range_succ, List.map_append, iV_app2]
              exact atI_last _ _
            have sl : (iV (startsU URS i)).length < sizeLine := by
              rw [iV_len]; unfold startsU; rw [List.length_map, List.length_range]; exact szl (by omega)
            refine ⟨_, rfl, .inl ⟨rfl, _, SqL.of es⟩, _, rfl, 1, rfl, ps, _, _, _, rfl, rfl, SqL.of es, last, _, rfl, a, _, rfl, .inl (e8.seq ha), _, _, rfl, rfl, ps, _, _, rfl, rfl, es, sl, ?_⟩
            refine ⟨_, rfl, same_mut e8 hps, ?_, ?_⟩
            · rw [upd_same, iV_app, st, xl]
            · rw [upd_ne (Ne.symm nsf)]; exact ef
          · rintro σ H8 ⟨o10, rfl, e8, es, ef⟩
            rw [uvl] at es
            have Ula : (startsU URS URS.length).length = URS.length + 1 := by unfold startsU; rw [List.length_map, List.length_range]
            have stat : ∀ t, t ≤ URS.length → (iV (startsU URS URS.length))[t]? = some (V.int ((sumTo URS t : Nat) : Int)) := fun t ht => by
              unfold startsU iV
              rw [List.getElem?_map, List.getElem?_map, List.getElem?_range (by omega)]
              rfl
            refine ⟨_, rfl, pu, rfl, ⟨_, SqL.of (e8 _ _ eU)⟩, ?_⟩
            refine for_list (K := K) (a := pu) (xs := uvs) (fun i σ H' => ∃ o10 o11, σ = [some (.ref l), some y, some (.ref hd), some (.ref mu), some (.int (size : Int)), some (.ref pu), some (.int ((must.length + size + 1 : Nat) : Int)), o7, some (.ref ps), some (.ref pf), o10, o11, none] ∧ Same H5 H' ∧ H' ps = some (.lst (iV (startsU URS URS.length))) ∧ ∃ acf, H' pf = some (.lst acf) ∧ DpAll K (del H' pf) acf (((URS.take i).flatten.map (Ro.re (sumTo URS))).map Ro.d)) ?_ ?_ ?_ ?_
            · exact ⟨_, none, rfl, e8, es, [], ef, .nil⟩
            · rintro i σ H' _ ⟨_, _, _, e, _⟩
              exact SqL.of (e _ _ eU)
            · rintro i v σ H9 hv ⟨o10, o11, rfl, e9, es9, acf, ef9, hacf⟩
              obtain ⟨a, xs, rfl, ha, hx, hi⟩ := unit i v hv
              have xl : xs.length = (URS.getD i []).length := by rw [dp_len hx, List.length_map]
              have hUi : URS.getD i [] ∈ URS := by rw [List.getD_eq_getElem?_getD, List.getElem?_eq_getElem hi]; exact List.getElem_mem _
              have hfu := (Uf _ hUi).2
              have hlu := (Uf _ hUi).1
              have tkl : (URS.take i).flatten.length ≤ 1200 := by
                rw [← sumTo_len URS i (by omega)]
                have := tot i (by omega)
                omega
              refine ⟨_, rfl, a, rfl, ⟨_, e9.seq ha⟩, ?_⟩
              refine for_list (K := K) (a := a) (xs := xs) (fun j σ H' => ∃ o11, σ = [some (.ref l), some y, some (.ref hd), some (.ref mu), some (.int (size : Int)), some (.ref pu), some (.int ((must.length + size + 1 : Nat) : Int)), o7, some (.ref ps), some (.ref pf), some (.ref a), o11, none] ∧ Same H5 H' ∧ H' ps = some (.lst (iV (startsU URS URS.length))) ∧ ∃ acf, H' pf = some (.lst acf) ∧ DpAll K (del H' pf) acf ((((URS.take i).flatten ++ (URS.getD i []).take j).map (Ro.re (sumTo URS))).map Ro.d)) ?_ ?_ ?_ ?_
              · exact ⟨_, rfl, e9, es9, acf, ef9, by rw [List.take_zero, List.append_nil]; exact hacf⟩
              · rintro j σ H' _ ⟨_, _, e, _⟩
                exact e.seq ha
              · rintro j z σ HA hz ⟨o11, rfl, eA, esA, acA, efA, haA⟩
                obtain ⟨r, hr1, hdr⟩ : ∃ r, (URS.getD i [])[j]? = some r ∧ Dp K H5 z r.d := by
                  obtain ⟨d, _, e1, h1⟩ := dp_get hx hz
                  rw [List.getElem?_map] at e1
                  cases c : (URS.getD i [])[j]? with
                  | none => rw [c] at e1; cases e1
                  | some t =>
                    rw [c] at e1
                    obtain rfl : t.d = d := Option.some.inj e1
                    exact ⟨t, rfl, h1⟩
                have hft := hfu r (List.mem_of_getElem? hr1)
                have hk : (((URS.take i).flatten ++ (URS.getD i []).take (j + 1)).map (Ro.re (sumTo URS))).map Ro.d = (((URS.take i).flatten ++ (URS.getD i []).take j).map (Ro.re (sumTo URS))).map Ro.d ++ [(r.re (sumTo URS)).d] := by
                  rw [List.take_succ, hr1, ← List.append_assoc, List.map_append (l₁ := (URS.take i).flatten ++ _), List.map_append]
                  rfl
                have hjl : j < (URS.getD i []).length := (List.getElem?_eq_some_iff.mp hr1).1
                have acl : acA.length < sizeLine := by
                  rw [dp_len haA, List.length_map, List.length_map, List.length_append, List.length_take]; exact szl (by omega)
                have hdA := dp_same eA hdr
                have hdA0 := hdA
                obtain ⟨qa, qs, rfl, hqa, hqx, hq0⟩ := row_head hdA
                refine ⟨_, rfl, .inl ⟨rfl, _, SqL.of efA⟩, _, rfl, qa, _, _, _, rfl, rfl, hqa, hq0, (by show 2 ≤ sizeLine; decide), fun t1 ht1 => ?_⟩
                have sB := same_new ht1 (.tup [.str "jump", .str "nought"])
                have etB : SqT K (upd HA t1 (.tup [.str "jump", .str "nought"])) t1 [.str "jump", .str "nought"] := SqT.of upd_same
                generalize upd HA t1 (.tup [.str "jump", .str "nought"]) = HB at sB etB ⊢
                refine ⟨t1, [.str "jump", .str "nought"], rfl, .inr etB, rfl, rfl, _, rfl, ?_⟩
                rw [in_two, verb_j]
                have fin : ∀ (HC : Hp) (x : V), Same HB HC → Dp K HC x (r.re (sumTo URS)).d → ∃ (l_1 : Addr) (xs_1 : List V) (y_1 : V), V.ref pf = .ref l_1 ∧ [x] = [y_1] ∧ HC l_1 = some (.lst xs_1) ∧ xs_1.length < sizeLine ∧ ∃ o11, [some (.ref l), some y, some (.ref hd), some (.ref mu), some (.int (size : Int)), some (.ref pu), some (.int ((must.length + size + 1 : Nat) : Int)), o7, some (.ref ps), some (.ref pf), some (.ref a), some (.ref qa), none] = [some (.ref l), some y, some (.ref hd), some (.ref mu), some (.int (size : Int)), some (.ref pu), some (.int ((must.length + size + 1 : Nat) : Int)), o7, some (.ref ps), some (.ref pf), some (.ref a), o11, none] ∧ Same H5 (upd HC l_1 (.lst (xs_1 ++ [y_1]))) ∧ (upd HC l_1 (.lst (xs_1 ++ [y_1]))) ps = some (.lst (iV (startsU URS URS.length))) ∧
                    ∃ acf, (upd HC l_1 (.lst (xs_1 ++ [y_1]))) pf = some (.lst acf) ∧ DpAll K (del (upd HC l_1 (.lst (xs_1 ++ [y_1]))) pf) acf ((((URS.take i).flatten ++ (URS.getD i []).take (j + 1)).map (Ro.re (sumTo URS))).map Ro.d) := fun HC x sC hdx => by
                  have sAC := sB.trans sC
                  refine ⟨pf, acA, x, rfl, rfl, sAC _ _ efA, acl, _, rfl, same_mut (eA.trans sAC) hpf0, ?_, _, upd_same, ?_⟩
                  · rw [upd_ne nsf]; exact sAC _ _ esA
                  · rw [hk, del_upd]
                    exact dpAll_app (dpAll_same (same_del pf sAC) haA) (dp_off (sAC _ _ efA) (ro_noL _) hdx)
                cases hJ : r.isJ with
                | true =>
                  refine iteT ?_
                  obtain ⟨t, ds, er, hre, htl⟩ := re_last hJ
                  rw [er] at hqx
                  obtain ⟨ys, zl, rfl, hys, hzl⟩ := dp_lastI2 hqx
                  obtain rfl : zl = .int t := by cases hzl; rfl
                  have ht := htl _ _ hft
                  refine ⟨_, rfl, 1, rfl, -1, rfl, qa, _, rfl, seqT_same sB hqa, fun pc HC gC hpc => ?_⟩
                  rw [cut_last] at hpc
                  refine ⟨_, rfl, _, rfl, 1, rfl, qa, _, _, _, rfl, rfl, seqT_same (sB.trans gC) hqa, atI_last _ _, ps, _, _, _, rfl, rfl, SqL.of ((sB.trans gC) _ _ esA), atI_nat (stat t (by omega)), (by show 1 ≤ sizeLine; decide), fun t3 ht3 => ?_⟩
                  have sD := same_new ht3 (.tup [.int ((sumTo URS t : Nat) : Int)])
                  have et3 : SqT K (upd HC t3 (.tup [.int ((sumTo URS t : Nat) : Int)])) t3 [.int ((sumTo URS t : Nat) : Int)] := SqT.of upd_same
                  generalize upd HC t3 (.tup [.int ((sumTo URS t : Nat) : Int)]) = HD at sD et3 ⊢
                  have hyl : ys.length ≤ 1000 := by
                    have h5 := congrArg List.length er
                    have h6 := dp_len hys
                    have h7 : (PyData.str r.verb :: r.args).length ≤ 5 := by
                      cases r with
                      | op k b c d pl => cases pl <;> simp [Ro.args]
                      | _ => simp [Ro.args]
                    rw [List.length_append] at h5
                    omega
                  refine ⟨pc, t3, _, _, rfl, rfl, seqT_same sD hpc, et3, (by rw [List.length_cons, List.length_nil]; exact Nat.le_of_lt (szl (by omega))), fun pd HE gE hpd => ?_⟩
                  have sBE := (gC.trans sD).trans gE
                  refine fin HE (.ref pd) sBE ?_
                  rw [hre]
                  exact .tup hpd (dpAll_app (dpAll_same (sB.trans sBE) hys) (.int _))
                | false =>
                  refine iteF ?_
                  refine ⟨_, rfl, ?_⟩
                  refine fin HB (.ref qa) (Same.refl _) ?_
                  rw [show r.re (sumTo URS) = r from by cases r <;> first | rfl | cases hJ]
                  exact dp_same sB hdA0
              · rintro σ HA ⟨o11, rfl, eA, esA, acA, efA, haA⟩
                rw [xl, List.take_length] at haA
                have hk : (URS.take (i + 1)).flatten = (URS.take i).flatten ++ URS.getD i [] := by
                  rw [List.take_succ, List.getElem?_eq_getElem hi, List.flatten_append, List.getD_eq_getElem?_getD, List.getElem?_eq_getElem hi]
                  simp
                exact ⟨_, _, rfl, eA, esA, acA, efA, by rw [hk]; exact haA⟩
            · rintro σ H9 ⟨o10, o11, rfl, e9, es9, acf, ef9, hacf⟩
              rw [uvl, List.take_length] at hacf
              refine ⟨_, rfl, pf, _, rfl, .inl ⟨SqL.of ef9, fun t1 ht1 => ?_⟩⟩
              have sA := same_new ht1 (.tup acf)
              have sH := e9.trans sA
              have fA : FI K H l q ns (upd H9 t1 (.tup acf)) := f5.same sH
              obtain ⟨kv, hkv⟩ := hl5
              have hl9 := sH _ _ hkv
              refine k (.ref t1) _ (URS.flatten.map (Ro.re (sumTo URS))) fA.f fA.s ?_ (by rw [List.length_map]; exact Ufl) fun r m => ?_
              · refine dp_offD hl9 ?_ (.tup (SqT.of upd_same) (dpAll_same ((del_le H9 pf).trans sA) hacf))
                exact noLs_ro _
              · obtain ⟨r0, m0, rfl⟩ := List.mem_map.mp m
                obtain ⟨u, mu', mr⟩ := List.mem_flatten.mp m0
                rw [List.length_map]
                exact fit_re ((Uf u mu').2 r0 mr) fun t ht => sumTo_le URS (by omega)
        · intro nx hnx
          refine ⟨_, rfl, .inl ⟨rfl, _, SqL.of h1⟩, _, rfl, l, 2, q, ns, rfl, f3.f, by decide, by decide, fun d H4 d0 d1 g4 k4 => ?_⟩
          have f4 := f3.draw g4 k4
          have u4 := u3.draw k4
          have h4 : H4 pu = some (.lst uvs) := Same.off k4 npu h1
          refine ⟨rfl, _, rfl, ?_⟩
          have put : ∀ (H5 : Hp) (p : Addr) (vs : List V) (r : Ro), FI K H l q ns H5 → UN K H5 l pu us → H5 pu = some (.lst uvs) → H5 p = none → (∀ G, DpAll K G vs (.str r.verb :: r.args)) → r.fit (must.length + size) ts → ∀ p2, (upd H5 p (.tup vs)) p2 = none →
              ∃ (l_1 : Addr) (xs_1 : List V) (y_1 : V), V.ref pu = .ref l_1 ∧ [V.ref p2] = [y_1] ∧ (upd (upd H5 p (.tup vs)) p2 (.lst [.ref p])) l_1 = some (.lst xs_1) ∧ xs_1.length < sizeLine ∧ nx [some (.ref l), some y, some (.ref hd), some (.ref mu), some (.int (size : Int)), some (.ref pu), some (.int ((must.length + size + 1 : Nat) : Int)), o7, none, none, none, none, none] (upd (upd (upd H5 p (.tup vs)) p2 (.lst [.ref p])) l_1 (.lst (xs_1 ++ [y_1]))) := fun H5 p vs r f5 u5 h5 hp hd hft p2 hp2 => by
            have np := new_ne f5.f hp
            have f6 := FI.new hf f5 hp (.tup vs)
            have u6 := u5.new hp (.tup vs)
            have h6 := same_new hp (.tup vs) _ _ h5
            have d6 : Dp K (del (upd H5 p (.tup vs)) l) (.ref p) r.d := .tup (sqTl np) (hd _)
            generalize upd H5 p (.tup vs) = H6 at f6 u6 h6 d6 hp2 ⊢
            have np2 := new_ne f6.f hp2
            have f7 := FI.new hf f6 hp2 (.lst [.ref p])
            have u7 := u6.new hp2 (.lst [.ref p])
            have h7 := same_new hp2 (.lst [.ref p]) _ _ h6
            have d7 : Dp K (del (upd H6 p2 (.lst [.ref p])) l) (.ref p2) (unitD [r]) := .lst (sqLl np2) (.cons (dpl_new d6 hp2 _) .nil)
            have n2 : p2 ≠ pu := fun z => by rw [z, h6] at hp2; cases hp2
            generalize upd H6 p2 (.lst [.ref p]) = H7 at f7 u7 h7 d7 ⊢
            obtain ⟨URS, a1, a2, a3, a4⟩ := last H7 p2 [r] f7 u7 h7 n2 d7 (by show 1 ≤ 10; decide) (fun x m => by rw [List.mem_singleton.mp m]; exact hft)
            exact ⟨pu, uvs, _, rfl, rfl, h7, few, hnx _ _ ⟨URS, rfl, a4, a3, a1, a2⟩⟩
          refine ite2 (fun c => ?_) (fun c => ?_)
          · refine ⟨(by show 1 ≤ sizeLine; decide), fun p hp => ⟨(by show 1 ≤ sizeLine; decide), fun p2 hp2 => ?_⟩⟩
            exact put H4 p _ (.plain false) f4 u4 h4 hp (fun G => .cons (.str _) .nil) trivial p2 hp2
          · refine ⟨_, rfl, _, rfl, l, _, q, ns, rfl, f4.f, by omega, by omega, fun j H5 j0 j1 g5 k5 => ?_⟩
            have f5 := f4.draw g5 k5
            have u5 := u4.draw k5
            have h5 : H5 pu = some (.lst uvs) := Same.off k5 npu h4
            obtain ⟨j, rfl⟩ := Int.eq_ofNat_of_zero_le j0
            refine ⟨(by show 2 ≤ sizeLine; decide), fun p hp => ⟨(by show 1 ≤ sizeLine; decide), fun p2 hp2 => ?_⟩⟩
            exact put H5 p _ (.jump j) f5 u5 h5 hp (fun G => .cons (.str _) (.cons (.int _) .nil)) (show j ≤ must.length + size by omega) p2 hp2
      · intro nx hnx
        refine ⟨_, rfl, l, 2, q, ns, rfl, f2.f, by decide, by decide, fun d H3 d0 d1 g3 k3 => ?_⟩
        have f3 := f2.draw g3 k3
        have u3 := u2.draw k3
        refine ⟨rfl, _, rfl, ?_⟩
        refine ite2 (fun c => ?_) (fun c => ?_)
        · obtain ⟨_, uvs, h1, h2⟩ := u3
          have hul := dp_len h2
          rw [List.length_map] at hul
          refine ⟨_, rfl, _, rfl, _, rfl, D, _, rfl, SqL.of h1, fun pa hpa => ?_⟩
          rw [cut_lo]
          have f4 := FI.new hf f3 hpa (.lst (uvs.drop size))
          have ea : (upd H3 pa (.lst (uvs.drop size))) pa = some (.lst (uvs.drop size)) := upd_same
          have eu := same_new hpa (.lst (uvs.drop size)) _ _ h1
          have s4 := same_new hpa (.lst (uvs.drop size))
          generalize upd H3 pa (.lst (uvs.drop size)) = H4 at f4 ea eu s4 ⊢
          refine ⟨_, rfl, _, rfl, _, rfl, D, _, rfl, SqL.of eu, fun pb hpb => ?_⟩
          rw [cut_hi]
          have f5 := FI.new hf f4 hpb (.lst (uvs.take size))
          have eb : (upd H4 pb (.lst (uvs.take size))) pb = some (.lst (uvs.take size)) := upd_same
          have ea5 := same_new hpb (.lst (uvs.take size)) _ _ ea
          have s5 := s4.trans (same_new hpb (.lst (uvs.take size)))
          generalize upd H4 pb (.lst (uvs.take size)) = H5 at f5 eb ea5 s5 ⊢
          refine ⟨pa, pb, _, _, rfl, rfl, ea5, eb, (by rw [List.length_drop, List.length_take]; exact Nat.le_of_lt (szl (by omega))), fun pc hpc => ?_⟩
          have npc := new_ne f5.f hpc
          refine hnx _ _ ⟨pc, us.drop size ++ us.take size, rfl, FI.new hf f5 hpc _, f5.fresh hpc, ⟨npc, _, upd_same, ?_⟩, ?_, fun u m => ?_⟩
          · rw [List.map_append, List.map_drop, List.map_take]
            have h6 : DpAll K (del (del (upd H5 pc (.lst (uvs.drop size ++ uvs.take size))) l) pc) uvs (us.map unitD) := by
              have h7 : DpAll K (del H5 l) uvs (us.map unitD) := dpAll_same ((del_le (del H3 l) D).trans (same_del l s5)) h2
              refine dpAll_same (fun b o e => ?_) h7
              by_cases cb : b = l
              · subst cb; rw [del_same] at e; cases e
              · rw [del_ne cb] at e
                have nbc : b ≠ pc := fun z => by rw [z, hpc] at e; cases e
                rw [del_ne nbc, del_ne cb, upd_ne nbc]; exact e
            exact dpAll_cat (dpAll_drop _ h6) (dpAll_takes _ h6)
          · rw [List.length_append, List.length_drop, List.length_take]; omega
          · rcases List.mem_append.mp m with m | m
            · exact uf u (List.mem_of_mem_drop m)
            · exact uf u (List.mem_of_mem_take m)
        · exact hnx _ _ ⟨D, us, rfl, f3, hD, u3, ul, uf⟩
end
end Lk

set_option Elab.async false
set_option linter.all false
set_option maxRecDepth 100000
set_option pp.maxSteps 1500
set_option maxHeartbeats 4000000
namespace Lk
open PySem PySem.Spec PyProof.Rows L2
def spLinked (K : PySem.W.Frag) : Sp := fun vs H Q _ => ∃ (l q : Addr) (ns : List Int), vs = [.ref l] ∧ Feed K H l q ns ∧
  ∀ (z : V) (H' : Hp) (n tk g : Int) (fs : List (Str × List Ro)), Feed K H' l q ns → Same (del H l) (del H' l) → Dp K (del H' l) z (linkedD n tk g fs) → WF fs → 0 ≤ n → n ≤ 16 → 0 ≤ tk → tk ≤ 16 → (g = 0 ∨ g = 1) → Q z H'
def choices : List (List Str) := [["main", "b"], ["main", "a", "zz"], ["main", "z9", "ab", "b"], ["main"], ["main", "n", "k"]]
theorem choices_ok : ∀ c ∈ choices, c.Nodup ∧ ("main" : Str) ∈ c ∧ c.length ≤ 4 ∧ 0 < c.length := by decide +kernel
theorem choices_str : ∀ c ∈ choices, ∀ s ∈ c, (reprText s).length ≤ 20 := by decide +kernel
theorem fit_sub {r : Ro} {n : Nat} {ts us : List Str} (h : r.fit n ts) (hs : ∀ t ∈ ts, t ∈ us) : r.fit n us := by
  cases r with
  | call t pl => exact ⟨hs t h.1, h.2⟩
  | _ => exact h
theorem off_mutD {K : PySem.W.Frag} {H : Hp} {p q : Addr} {o : HO} {kv : List (Key × V)} {x : V} {d : PyData} (h : Dp K (del H q) x d) (hn : noL d = true) (hp : H p = some (.dK kv)) (ne : p ≠ q) : Dp K (del (upd H p o) q) x d := by
  have q2 := dp_offD (l := p) (kv := kv) (by rw [del_ne ne]; exact hp) hn h
  refine dp_same (fun b' o h => ?_) q2
  by_cases c1 : b' = p
  · subst c1; rw [del_same] at h; cases h
  · rw [del_ne c1] at h
    by_cases c2 : b' = q
    · subst c2; rw [del_same] at h; cases h
    · rw [del_ne c2] at h ⊢
      rw [upd_ne c1]; exact h
theorem off_mutDs {K : PySem.W.Frag} {H : Hp} {p q : Addr} {o : HO} {kv : List (Key × V)} : ∀ {xs : List V} {ds : List PyData}, DpAll K (del H q) xs ds → noLs ds = true → H p = some (.dK kv) → p ≠ q → DpAll K (del (upd H p o) q) xs ds
  | _, _, .nil, _, _, _ => .nil
  | _, _, .cons a b, n, hp, ne => .cons (off_mutD a (Bool.and_eq_true_iff.mp n).1 hp ne) (off_mutDs b (Bool.and_eq_true_iff.mp n).2 hp ne)
theorem heads_noL (hs : List (Str × Int × Int)) : noLs (hs.map headD) = true := by
  induction hs with
  | nil => rfl
  | cons h hs ih => show (true && noLs (hs.map headD)) = true; rw [ih]; rfl
theorem rows_noL (rs : List Ro) : noL (rowsD rs) = true := noLs_ro rs
theorem fns_noL (fs : List (Str × List Ro)) : noLs (fs.map fnD) = true := by
  induction fs with
  | nil => rfl
  | cons p fs ih =>
    show (noL (fnD p) && noLs (fs.map fnD)) = true
    rw [ih, Bool.and_true]
    show (true && (true && (noL (rowsD p.2) && true))) = true
    rw [rows_noL]; rfl
theorem mem_iV {ns : List Int} {y : V} (h : y ∈ iV ns) : ∃ n, n ∈ ns ∧ y = .int n := by
  obtain ⟨n, m, rfl⟩ := List.mem_map.mp h
  exact ⟨n, m, rfl⟩
theorem head_get {K : PySem.W.Frag} {H : Hp} {xs : List V} {hs : List (Str × Int × Int)} {i : Nat} (h : DpAll K H xs (hs.map headD)) (hi : i < hs.length) : ∃ z, xs[i]? = some z ∧ Dp K H z (headD hs[i]) := by
  obtain ⟨v, h1, h2⟩ := dp_nth h (i := i) (by rw [List.length_map]; exact hi)
  rw [List.getElem_map] at h2
  exact ⟨v, h1, h2⟩
theorem head_inv {K : PySem.W.Frag} {H : Hp} {z : V} {h : Str × Int × Int} (d : Dp K H z (headD h)) : ∃ a, z = .ref a ∧ SqT K H a [.str h.1, .int h.2.1, .int h.2.2] := by
  obtain ⟨a, xs, rfl, ha, hx⟩ := tup_inv d
  cases hx with
  | cons a1 r1 => cases r1 with
    | cons a2 r2 => cases r2 with
      | cons a3 r3 => cases r3; cases a1; cases a2; cases a3; exact ⟨a, rfl, ha⟩
theorem putK_le (kv : List (Key × V)) (k : Key) (v : V) : (putK kv k v).length ≤ kv.length + 1 := by
  unfold putK
  split
  · rw [List.length_map]; omega
  · rw [List.length_append]; exact Nat.le_refl _
theorem cut_strs (names : List Str) (lo hi : Option Int) : ∃ must : List Str, cutV (names.map V.str) lo hi = must.map V.str ∧ must.length ≤ names.length ∧ ∀ m ∈ must, m ∈ names := by
  refine ⟨(names.drop (HT.sIx (names.map V.str).length 0 lo)).take (HT.sIx (names.map V.str).length (names.map V.str).length hi - HT.sIx (names.map V.str).length 0 lo), ?_, ?_, fun m h => List.mem_of_mem_drop (List.mem_of_mem_take h)⟩
  · unfold cutV
    rw [List.map_take, List.map_drop]
  · rw [List.length_take, List.length_drop]; omega
section
variable {P : Program} {w : World} {K : PySem.W.Frag} {mg : Str → Option Value} {base : Heap}
theorem ok_linked (T : Txt K mg) : FnOk P w K mg base CX0 5 T.f__law_linked T.d__law_linked ["_law_feed_here"] (spLinked K) := by
  have nd := sc__law_linked.nd
  refine T.F__law_linked.ok sc__law_linked (fun vs H Q E h => ?_) (fun cdv A outer s H vs Q E hr h => ?_)
  · obtain ⟨l, q, ns, rfl, _⟩ := h
    rfl
  obtain ⟨l, q, ns, rfl, hf, k⟩ := h
  have G__law_draw : FnOk P w K mg base CX0 1 _ _ _ (spTake K) := ok_draw T
  have hr__law_draw := hr.mono (show 1 ≤ 4 by omega)
  have G__law_any : FnOk P w K mg base CX0 2 _ _ _ (spAny K) := ok_any T
  have hr__law_any := hr.mono (show 2 ≤ 4 by omega)
  have G__law_rows : FnOk P w K mg base CX0 4 _ _ _ (spRowsL K) := ok_rowsL T
  have hr__law_rows := hr
  refine ⟨_, (pss_cons (ps_set (i := 1) nd rfl (Or.inl rfl) (pe_lst (pa_cons (pe_lst (pa_cons pe_str (pa_cons pe_str pa_nil))) (pa_cons (pe_lst (pa_cons pe_str (pa_cons pe_str (pa_cons pe_str pa_nil)))) (pa_cons (pe_lst (pa_cons pe_str (pa_cons pe_str (pa_cons pe_str (pa_cons pe_str pa_nil))))) (pa_cons (pe_lst (pa_cons pe_str pa_nil)) (pa_cons (pe_lst (pa_cons pe_str (pa_cons pe_str (pa_cons pe_str pa_nil)))) pa_nil)))))))
      (pss_cons (ps_set (i := 2) nd rfl (Or.inl rfl) (pe_call G__law_any hr__law_any rfl T.m__law_any T.k__law_any T.b__law_any .nil pass0 (pa_cons (pv 0) (pa_cons (pv 1) pa_nil))))
      (pss_cons (ps_set (i := 3) nd rfl (Or.inr rfl) (pe_call G__law_any hr__law_any rfl T.m__law_any T.k__law_any T.b__law_any .nil pass0 (pa_cons (pv 0) (pa_cons (pe_lst (pa_cons pe_int (pa_cons pe_int (pa_cons pe_int (pa_cons pe_int (pa_cons pe_int (pa_cons pe_int (pa_cons pe_int (pa_cons pe_int pa_nil))))))))) pa_nil))))
      (pss_cons (ps_setLc (i := 4) (own := [("_law_name", 11)]) (g := gName 11) (tt := tYes) (by rfl) nd rfl rfl (sw_true rfl rfl rfl (by decide +kernel)) (pi_list (pv 2)) (blkOk_by (own := [("_law_name", 11)]) (N := sl__law_linked) (sc := defScope s__law_linked) (by decide +kernel)) (fun _ _ _ _ _ => pg_name (i := 11) nd rfl (Or.inl rfl)) (fun _ _ _ _ _ => pts_nil) (fun _ _ _ _ _ => (pe_tup (pa_cons (pv 11) (pa_cons (pe_op op_sub (pv 3) (pe_call G__law_draw hr__law_draw rfl T.m__law_draw T.k__law_draw T.b__law_draw .nil pass0 (pa_cons (pv 0) (pa_cons (pe_callB (call_min2 rfl) (by rfl) T.z_min (by decide +kernel) (pa_cons (pv 3) (pa_cons pe_int pa_nil))) pa_nil)))) (pa_cons (pe_call G__law_draw hr__law_draw rfl T.m__law_draw T.k__law_draw T.b__law_draw .nil pass0 (pa_cons (pv 0) (pa_cons pe_int pa_nil))) pa_nil))))))
      (pss_cons (ps_set (i := 5) nd rfl (Or.inr rfl) pe_dnewK)
      (pss_cons (ps_for PassesOwn.never rfl (pi_range1 (by rfl) T.z_range (pa_cons (pe_callB call_len_seq (by rfl) T.z_len PySem.boot_len (pa_cons (pv 2) pa_nil)) pa_nil)) (pg_name (i := 6) nd rfl (Or.inl rfl))
      (pss_cons (ps_set (i := 7) nd rfl (Or.inl rfl) (pe_call G__law_any hr__law_any rfl T.m__law_any T.k__law_any T.b__law_any .nil pass0 (pa_cons (pv 0) (pa_cons (pe_lst (pa_cons pe_int (pa_cons pe_int (pa_cons pe_int (pa_cons pe_int (pa_cons pe_int (pa_cons pe_int (pa_cons pe_int (pa_cons pe_int pa_nil))))))))) pa_nil))))
      (pss_one (ps_dput (hu1 hr) (pv 5) (pe_ix ix_list (pv 2) (pv 6) (fun _ _ => rfl)) (pe_call G__law_rows hr__law_rows rfl T.m__law_rows T.k__law_rows T.b__law_rows .nil pass0 (pa_cons (pv 0) (pa_cons (pe_ix ix_list (pv 4) (pv 6) (fun _ _ => rfl)) (pa_cons (pv 4) (pa_cons (pe_slice sl_list (pv 2) (po_some (pe_op op_add (pv 6) pe_int)) (po_some (pe_op op_add (pv 6) pe_int))) (pa_cons (pv 7) pa_nil)))))) rfl))))
      (pss_cons (ps_set (i := 8) nd rfl (Or.inl rfl) (pe_callTy call_tuple_of (by rfl) T.z_tuple (by decide +kernel) (pa_cons (pe_lc (own := [("_law_name", 11)]) (g := gName 11) (tt := tYes) (by rfl) nd (pi_list (pe_callB cr_sortedS (by rfl) T.z_sorted (by decide +kernel) (pa_cons (pv 2) pa_nil))) (blkOk_by (own := [("_law_name", 11)]) (N := sl__law_linked) (sc := defScope s__law_linked) (by decide +kernel)) (fun _ _ _ _ _ => pg_name (i := 11) nd rfl (Or.inl rfl)) (fun _ _ _ _ _ => pts_nil) (fun _ _ _ _ _ => (pe_tup (pa_cons (pv 11) (pa_cons pe_int (pa_cons (pe_dget (hu1 hr) (pv 5) (pv 11) (fun _ _ => rfl)) pa_nil)))))) pa_nil)))
      (pss_cons (ps_set (i := 9) nd rfl (Or.inl rfl) (pe_callB (cr_max rfl) (by rfl) T.z_max (by decide +kernel) (pa_cons (pe_lc (own := [("_law_head", 12)]) (g := gName 12) (tt := tYes) (by rfl) nd (pi_list (pv 4)) (blkOk_by (own := [("_law_head", 12)]) (N := sl__law_linked) (sc := defScope s__law_linked) (by decide +kernel)) (fun _ _ _ _ _ => pg_name (i := 12) nd rfl (Or.inl rfl)) (fun _ _ _ _ _ => pts_nil) (fun _ _ _ _ _ => (pe_ix (ix_tupK (K := K) rfl) (pv 12) pe_int (fun _ _ => rfl)))) pa_nil)))
      (pss_cons (ps_set (i := 10) nd rfl (Or.inl rfl) (pe_callB (cr_min rfl) (by rfl) T.z_min (by decide +kernel) (pa_cons (pe_op op_cat (pe_lst (pa_cons pe_int pa_nil)) (pe_lc (own := [("_law_head", 12)]) (g := gName 12) (tt := tYes) (by rfl) nd (pi_list (pv 4)) (blkOk_by (own := [("_law_head", 12)]) (N := sl__law_linked) (sc := defScope s__law_linked) (by decide +kernel)) (fun _ _ _ _ _ => pg_name (i := 12) nd rfl (Or.inl rfl)) (fun _ _ _ _ _ => pts_nil) (fun _ _ _ _ _ => (pe_ix (ix_tupK (K := K) rfl) (pv 12) pe_int (fun _ _ => rfl))))) pa_nil)))
      (pss_one (ps_ret (pe_tup (pa_cons (pv 9) (pa_cons (pe_call G__law_draw hr__law_draw rfl T.m__law_draw T.k__law_draw T.b__law_draw .nil pass0 (pa_cons (pv 0) (pa_cons (pe_op op_add (pv 10) pe_int) pa_nil))) (pa_cons (pe_ix ix_tup (pe_ix ix_list (pv 4) pe_int (fun _ _ => rfl)) pe_int (fun _ _ => rfl)) (pa_cons (pv 8) pa_nil)))))))))))))))), ?_⟩
  -- the lists of names
  refine ⟨(by show 2 ≤ sizeLine; decide), fun c1 hc1 => ?_⟩
  have f1 := FI.new hf (FI.ref hf) hc1 (.lst [.str "main", .str "b"])
  have a1_1 : (upd H c1 (.lst [.str "main", .str "b"])) c1 = some (.lst ((["main", "b"] : List Str).map V.str)) := upd_same
  have n1 := new_ne hf hc1
  generalize upd H c1 (.lst [.str "main", .str "b"]) = G1 at f1 a1_1 ⊢
  refine ⟨(by show 3 ≤ sizeLine; decide), fun c2 hc2 => ?_⟩
  have f2 := FI.new hf f1 hc2 (.lst [.str "main", .str "a", .str "zz"])
  have a1_2 := same_new hc2 (.lst [.str "main", .str "a", .str "zz"]) _ _ a1_1
  have a2_2 : (upd G1 c2 (.lst [.str "main", .str "a", .str "zz"])) c2 = some (.lst ((["main", "a", "zz"] : List Str).map V.str)) := upd_same
  have n2 := new_ne f1.f hc2
  generalize upd G1 c2 (.lst [.str "main", .str "a", .str "zz"]) = G2 at f2 a1_2 a2_2 ⊢
  refine ⟨(by show 4 ≤ sizeLine; decide), fun c3 hc3 => ?_⟩
  have f3 := FI.new hf f2 hc3 (.lst [.str "main", .str "z9", .str "ab", .str "b"])
  have a1_3 := same_new hc3 (.lst [.str "main", .str "z9", .str "ab", .str "b"]) _ _ a1_2
  have a2_3 := same_new hc3 (.lst [.str "main", .str "z9", .str "ab", .str "b"]) _ _ a2_2
  have a3_3 : (upd G2 c3 (.lst [.str "main", .str "z9", .str "ab", .str "b"])) c3 = some (.lst ((["main", "z9", "ab", "b"] : List Str).map V.str)) := upd_same
  have n3 := new_ne f2.f hc3
  generalize upd G2 c3 (.lst [.str "main", .str "z9", .str "ab", .str "b"]) = G3 at f3 a1_3 a2_3 a3_3 ⊢
  refine ⟨(by show 1 ≤ sizeLine; decide), fun c4 hc4 => ?_⟩
  have f4 := FI.new hf f3 hc4 (.lst [.str "main"])
  have a1_4 := same_new hc4 (.lst [.str "main"]) _ _ a1_3
  have a2_4 := same_new hc4 (.lst [.str "main"]) _ _ a2_3
  have a3_4 := same_new hc4 (.lst [.str "main"]) _ _ a3_3
  have a4_4 : (upd G3 c4 (.lst [.str "main"])) c4 = some (.lst ((["main"] : List Str).map V.str)) := upd_same
  have n4 := new_ne f3.f hc4
  generalize upd G3 c4 (.lst [.str "main"]) = G4 at f4 a1_4 a2_4 a3_4 a4_4 ⊢
  refine ⟨(by show 3 ≤ sizeLine; decide), fun c5 hc5 => ?_⟩
  have f5 := FI.new hf f4 hc5 (.lst [.str "main", .str "n", .str "k"])
  have a1_5 := same_new hc5 (.lst [.str "main", .str "n", .str "k"]) _ _ a1_4
  have a2_5 := same_new hc5 (.lst [.str "main", .str "n", .str "k"]) _ _ a2_4
  have a3_5 := same_new hc5 (.lst [.str "main", .str "n", .str "k"]) _ _ a3_4
  have a4_5 := same_new hc5 (.lst [.str "main", .str "n", .str "k"]) _ _ a4_4
  have a5_5 : (upd G4 c5 (.lst [.str "main", .str "n", .str "k"])) c5 = some (.lst ((["main", "n", "k"] : List Str).map V.str)) := upd_same
  have n5 := new_ne f4.f hc5
  generalize upd G4 c5 (.lst [.str "main", .str "n", .str "k"]) = G5 at f5 a1_5 a2_5 a3_5 a4_5 a5_5 ⊢
  refine ⟨(by show 5 ≤ sizeLine; decide), fun ps hps => ?_⟩
  have f6 := FI.new hf f5 hps (.lst [.ref c1, .ref c2, .ref c3, .ref c4, .ref c5])
  have ep : SqL K (del (upd G5 ps (.lst [.ref c1, .ref c2, .ref c3, .ref c4, .ref c5])) l) ps [.ref c1, .ref c2, .ref c3, .ref c4, .ref c5] := sqLl (new_ne f5.f hps)
  have a1 := same_new hps (.lst [.ref c1, .ref c2, .ref c3, .ref c4, .ref c5]) _ _ a1_5
  have a2 := same_new hps (.lst [.ref c1, .ref c2, .ref c3, .ref c4, .ref c5]) _ _ a2_5
  have a3 := same_new hps (.lst [.ref c1, .ref c2, .ref c3, .ref c4, .ref c5]) _ _ a3_5
  have a4 := same_new hps (.lst [.ref c1, .ref c2, .ref c3, .ref c4, .ref c5]) _ _ a4_5
  have a5 := same_new hps (.lst [.ref c1, .ref c2, .ref c3, .ref c4, .ref c5]) _ _ a5_5
  generalize upd G5 ps (.lst [.ref c1, .ref c2, .ref c3, .ref c4, .ref c5]) = H1 at f6 ep a1 a2 a3 a4 a5 ⊢
  refine ⟨_, rfl, _, rfl, l, ps, _, q, ns, rfl, f6.f, ep, (by show 0 < 5; decide), (by show 5 ≤ 1000; decide), fun y H2 hy g2 k2 => ?_⟩
  have f7 := f6.draw g2 k2
  obtain ⟨na, names, rfl, nna, ena, hch⟩ : ∃ (na : Addr) (names : List Str), y = .ref na ∧ na ≠ l ∧ H2 na = some (.lst (names.map V.str)) ∧ names ∈ choices := by
    rcases List.mem_cons.mp hy with rfl | hy
    · exact ⟨c1, _, rfl, n1, Same.off k2 n1 a1, by unfold choices; exact List.mem_cons_self⟩
    rcases List.mem_cons.mp hy with rfl | hy
    · exact ⟨c2, _, rfl, n2, Same.off k2 n2 a2, by unfold choices; exact List.mem_cons_of_mem _ List.mem_cons_self⟩
    rcases List.mem_cons.mp hy with rfl | hy
    · exact ⟨c3, _, rfl, n3, Same.off k2 n3 a3, by unfold choices; exact List.mem_cons_of_mem _ (List.mem_cons_of_mem _ List.mem_cons_self)⟩
    rcases List.mem_cons.mp hy with rfl | hy
    · exact ⟨c4, _, rfl, n4, Same.off k2 n4 a4, by unfold choices; exact List.mem_cons_of_mem _ (List.mem_cons_of_mem _ (List.mem_cons_of_mem _ List.mem_cons_self))⟩
    obtain rfl := List.mem_singleton.mp hy
    exact ⟨c5, _, rfl, n5, Same.off k2 n5 a5, by unfold choices; exact List.mem_cons_of_mem _ (List.mem_cons_of_mem _ (List.mem_cons_of_mem _ (List.mem_cons_of_mem _ List.mem_cons_self)))⟩
  obtain ⟨nnd, nmain, nl4, nl0⟩ := choices_ok names hch
  have nml : (names.map V.str).length = names.length := List.length_map _
  -- high
  refine ⟨_, rfl, (by show 8 ≤ sizeLine; decide), fun pb hpb => ?_⟩
  have f8 := FI.new hf f7 hpb (.lst [.int 16, .int 16, .int 3, .int 2, .int 1, .int 7, .int 9, .int 16])
  have ena8 := same_new hpb (.lst [.int 16, .int 16, .int 3, .int 2, .int 1, .int 7, .int 9, .int 16]) _ _ ena
  have epb : SqL K (del (upd H2 pb (.lst [.int 16, .int 16, .int 3, .int 2, .int 1, .int 7, .int 9, .int 16])) l) pb (iV [16, 16, 3, 2, 1, 7, 9, 16]) := sqLl (new_ne f7.f hpb)
  refine ⟨l, pb, _, q, ns, rfl, f8.f, epb, (by show 0 < 8; decide), (by show 8 ≤ 1000; decide), fun y H3 hy g3 k3 => ?_⟩
  have f9 := f8.draw g3 k3
  have ena9 := Same.off k3 nna ena8
  obtain ⟨high, hm, rfl⟩ := mem_iV hy
  have hhi : 1 ≤ high ∧ high ≤ 16 := by
    have : ∀ h ∈ ([16, 16, 3, 2, 1, 7, 9, 16] : List Int), 1 ≤ h ∧ h ≤ 16 := by decide +kernel
    exact this high hm
  -- heads
  refine ⟨_, rfl, na, rfl, ⟨_, SqL.of ena9⟩, fun hD hhD => ?_⟩
  have nhD := new_ne f9.f hhD
  have hhD0 := f9.fresh hhD
  have nnh : na ≠ hD := fun z => by rw [← z, ena9] at hhD; cases hhD
  refine lc_list (K := K) (a := na) (xs := names.map V.str) (fun i H' => FI K H l q ns H' ∧ H' na = some (.lst (names.map V.str)) ∧ ∃ (acc : List V) (hs : List (Str × Int × Int)), H' hD = some (.lst acc) ∧ DpAll K (del H' l) acc (hs.map headD) ∧ hs.map (·.1) = names.take i ∧ ∀ h ∈ hs, 1 ≤ h.2.1 ∧ h.2.1 ≤ 16 ∧ (h.2.2 = 0 ∨ h.2.2 = 1)) ?_ ?_ ?_ ?_
  · exact ⟨FI.put hf f9 hhD0 _, by rw [upd_ne nnh]; exact ena9, [], [], upd_same, .nil, rfl, fun _ m => nomatch m⟩
  · rintro i H' _ ⟨_, e, _⟩
    exact SqL.of e
  · rintro i x H4 hix ⟨f4, e4, acc, hs, eh, hacc, hti, hok⟩
    obtain ⟨nm, hnm, rfl⟩ : ∃ nm, names[i]? = some nm ∧ x = V.str nm := by
      rw [List.getElem?_map] at hix
      cases c : names[i]? with
      | none => rw [c] at hix; cases hix
      | some nm => rw [c] at hix; exact ⟨nm, rfl, (Option.some.inj hix).symm⟩
    have hi : i < names.length := (List.getElem?_eq_some_iff.mp hnm).1
    refine ⟨rfl, ?_⟩
    refine ⟨_, rfl, _, rfl, _, rfl, _, rfl, high, 3, rfl, ?_⟩
    have hmin : 0 < (if 3 < high then 3 else high) ∧ (if 3 < high then 3 else high) ≤ high ∧ (if 3 < high then (3 : Int) else high) ≤ 3 := by split <;> omega
    generalize (if 3 < high then 3 else high) = mn at hmin ⊢
    refine ⟨l, mn, q, ns, rfl, f4.f, hmin.1, by omega, fun d H5 d0 d1 g5 k5 => ?_⟩
    have f5 := f4.draw g5 k5
    refine ⟨_, _, rfl, rfl, _, rfl, l, 2, q, ns, rfl, f5.f, by decide, by decide, fun g H6 g0 g1 g6 k6 => ?_⟩
    have f6 := f5.draw g6 k6
    have kk := k5.trans k6
    have eh6 := Same.off kk nhD eh
    have ena6 := Same.off kk nna e4
    have hacc6 := dpAll_same kk hacc
    refine ⟨(by show 3 ≤ sizeLine; decide), fun p hp => ?_⟩
    have np := new_ne f6.f hp
    have eh7 := same_new hp (.tup [.str nm, .int (high - d), .int g]) _ _ eh6
    have ena7 := same_new hp (.tup [.str nm, .int (high - d), .int g]) _ _ ena6
    have hk : (hs ++ [(nm, high - d, g)]).map headD = hs.map headD ++ [headD (nm, high - d, g)] := by rw [List.map_append]; rfl
    have al : acc.length = i := by
      rw [dp_len hacc, List.length_map, ← List.length_map (f := fun (h : Str × Int × Int) => h.1), hti, List.length_take]; omega
    refine ⟨acc, eh7, (by rw [al]; exact szl (by omega)), FI.put hf (FI.new hf f6 hp _) hhD0 _, by rw [upd_ne nnh]; exact ena7, acc ++ [.ref p], hs ++ [(nm, high - d, g)], upd_same, ?_, ?_, fun h m => ?_⟩
    · refine off_mut ?_ ?_ eh7 nhD
      · rw [hk]
        exact dpAll_app (dpL_new hacc6 hp _) (.tup (sqTl np) (.cons (.str _) (.cons (.int _) (.cons (.int _) .nil))))
      · exact heads_noL _
    · rw [List.map_append, hti, List.take_succ, hnm]; rfl
    · rcases List.mem_append.mp m with m | m
      · exact hok h m
      · rw [List.mem_singleton.mp m]
        exact ⟨by show 1 ≤ high - d; omega, by show high - d ≤ 16; omega, by show g = 0 ∨ g = 1; omega⟩
  · rintro H4 ⟨f4, e4, hacc0, hs, eh, hacc, hti, hsok⟩
    rw [nml, List.take_length] at hti
    have hsl : hs.length = names.length := by rw [← hti, List.length_map]
    have hst : ∀ h ∈ hs, h.1 ∈ names := fun h m => by rw [← hti]; exact List.mem_map.mpr ⟨h, m, rfl⟩
    have hxl : hacc0.length = hs.length := by rw [dp_len hacc, List.length_map]
    refine fun fd hfd => ?_
    have nfd := new_ne f4.f hfd
    have hfd0 := f4.fresh hfd
    have f5 := FI.put hf f4 hfd0 (.dK [])
    have e5 := same_new hfd (.dK []) _ _ e4
    have eh5 := same_new hfd (.dK []) _ _ eh
    have hx5 := dpL_new hacc hfd (.dK [])
    refine ⟨_, rfl, na, _, rfl, .inl (SqL.of e5), (names.length : Int), by rw [nml], by omega, by omega, ?_⟩
    refine for_range (lo := 0) (n := (names.length : Int).toNat) (fun i σ H' => ∃ (o6 o7 : Option V) (kv : List (Key × V)), σ = [some (.ref l), some (.ref ps), some (.ref na), some (.int high), some (.ref hD), some (.ref fd), o6, o7, none, none, none, none, none] ∧ FI K H l q ns H' ∧ H' na = some (.lst (names.map V.str)) ∧ H' hD = some (.lst hacc0) ∧ DpAll K (del H' l) hacc0 (hs.map headD) ∧ H' fd = some (.dK kv) ∧ kv.length ≤ i ∧
      ∀ nm ∈ names.take i, ∃ (z : V) (rs : List Ro), valV kv (Sum.inr nm) = some z ∧ Dp K (del H' l) z (rowsD rs) ∧ rs.length ≤ 2000 ∧ ∀ r ∈ rs, r.fit rs.length names) ?_ ?_ ?_
    · exact ⟨none, none, [], rfl, f5, e5, eh5, hx5, upd_same, Nat.le_refl _, fun _ m => by rw [List.take_zero] at m; cases m⟩
    · rintro i σ H6 hi ⟨o6, o7, kv, rfl, f6, e6, eh6, hx6, ed6, kl, hk⟩
      have hi2 : i < names.length := by omega
      refine ⟨_, rfl, (by show 8 ≤ sizeLine; decide), fun pb hpb => ?_⟩
      have f7 := FI.new hf f6 hpb (.lst (iV [1, 3, 5, 6, 8, 12, 18, 24]))
      have s7 := same_new hpb (.lst (iV [1, 3, 5, 6, 8, 12, 18, 24]))
      have epb : SqL K (del (upd H6 pb (.lst (iV [1, 3, 5, 6, 8, 12, 18, 24]))) l) pb (iV [1, 3, 5, 6, 8, 12, 18, 24]) := sqLl (new_ne f6.f hpb)
      refine ⟨l, pb, _, q, ns, rfl, f7.f, epb, (by show 0 < 8; decide), (by show 8 ≤ 1000; decide), fun y H8 hy g8 k8 => ?_⟩
      have f8 := f7.draw g8 k8
      obtain ⟨size, hm, rfl⟩ := mem_iV hy
      have hsz : 0 ≤ size ∧ size ≤ 24 := by
        have : ∀ h ∈ ([1, 3, 5, 6, 8, 12, 18, 24] : List Int), 0 ≤ h ∧ h ≤ 24 := by decide +kernel
        exact this size hm
      have e8 := Same.off k8 nna (s7 _ _ e6)
      have eh8 := Same.off k8 nhD (s7 _ _ eh6)
      have ed8 := Same.off k8 nfd (s7 _ _ ed6)
      have hx8 := dpAll_same ((same_del l s7).trans k8) hx6
      obtain ⟨size, rfl⟩ := Int.eq_ofNat_of_zero_le hsz.1
      have hih : i < hs.length := by omega
      obtain ⟨hv, hv1, hv2⟩ := head_get hx8 hih
      have at8 : atI hacc0 ((0 : Int) + (i : Int)) = some hv := by rw [Int.zero_add]; exact atI_nat hv1
      refine ⟨_, rfl, _, rfl, _, rfl, hD, _, _, _, rfl, rfl, SqL.of eh8, at8, _, rfl, _, rfl, _, rfl, _, _, rfl, rfl, _, rfl, _, rfl, _, _, rfl, rfl, _, rfl, na, _, rfl, SqL.of e8, fun mu hmu => ?_⟩
      obtain ⟨must, hmc, hml, hms⟩ := cut_strs names (some ((0 : Int) + (i : Int) + 1)) (some ((0 : Int) + (i : Int) + 2))
      have nmu := new_ne f8.f hmu
      have f9 := FI.new hf f8 hmu (.lst (must.map V.str))
      have s9 := same_new hmu (.lst (must.map V.str))
      have emu : SqL K (del (upd H8 mu (.lst (must.map V.str))) l) mu (must.map V.str) := sqLl nmu
      have e9 := s9 _ _ e8
      have eh9 := s9 _ _ eh8
      have ed9 := s9 _ _ ed8
      have hx9 := dpL_new hx8 hmu (.lst (must.map V.str))
      have hv9 := dpl_new hv2 hmu (.lst (must.map V.str))
      rw [← hmc] at f9 s9 emu e9 eh9 ed9 hx9 hv9
      generalize upd H8 mu (.lst (cutV (names.map V.str) (some ((0 : Int) + (i : Int) + 1)) (some ((0 : Int) + (i : Int) + 2)))) = H9 at f9 s9 emu e9 eh9 ed9 hx9 hv9
      rw [hmc] at emu
      have hsi := hsok _ (List.getElem_mem hih)
      have f69 := f8.f
      refine ⟨_, rfl, l, q, hD, mu, ns, hv, hs[i], hacc0, hs, must, size, names, rfl, f9.f, hv9, SqL.of (by rw [del_ne nhD]; exact eh9), hx9, by omega, by omega, hst, hsi.1, hsi.2.1, hsi.2.2, hst _ (List.getElem_mem hih), emu, by omega, hms, by omega, fun z HA rs gA kA hz hrl hrf => ?_⟩
      have fA := f9.draw gA kA
      have eA := Same.off kA nna e9
      have ehA := Same.off kA nhD eh9
      have edA := Same.off kA nfd ed9
      have hxA := dpAll_same kA hx9
      obtain ⟨nm, hnm⟩ : ∃ nm, names[i]? = some nm := ⟨_, List.getElem?_eq_getElem hi2⟩
      have atn : atI (names.map V.str) ((0 : Int) + (i : Int)) = some (V.str nm) := by
        rw [Int.zero_add]
        refine atI_nat ?_
        rw [List.getElem?_map, hnm]; rfl
      refine ⟨_, rfl, _, rfl, _, rfl, na, _, _, _, rfl, rfl, SqL.of eA, atn, fd, _, rfl, DPut.k (k := Sum.inr nm) edA (szl (by omega)), ?_⟩
      have k6A : Same (del H6 l) (del HA l) := (((same_del l s7).trans k8).trans (same_del l s9)).trans kA
      refine ⟨_, _, _, rfl, FI.put hf fA hfd0 _, ?_, ?_, off_mutDs hxA (heads_noL _) edA nfd, upd_same, ?_, fun nm2 m2 => ?_⟩
      · rw [upd_ne (fun z => by rw [z, edA] at eA; cases eA)]; exact eA
      · rw [upd_ne (fun z => by rw [z, edA] at ehA; cases ehA)]; exact ehA
      · exact Nat.le_trans (putK_le ..) (by omega)
      · by_cases c : nm2 = nm
        · subst c
          exact ⟨z, rs, by rw [valV_put, if_pos rfl], off_mutD hz (rows_noL _) edA nfd, hrl, hrf⟩
        · have m3 : nm2 ∈ names.take i := by
            rw [List.take_succ, hnm] at m2
            rcases List.mem_append.mp m2 with m | m
            · exact m
            · exact absurd (List.mem_singleton.mp m) c
          obtain ⟨z2, rs2, h1, h2, h3, h4⟩ := hk nm2 m3
          exact ⟨z2, rs2, by rw [valV_put, if_neg (fun q => c (Sum.inr.inj q))]; exact h1, off_mutD (dp_same k6A h2) (rows_noL _) edA nfd, h3, h4⟩
    · rintro σ H6 ⟨o6, o7, kv, rfl, f6, e6, eh6, hx6, ed6, kl, hk⟩
      rw [show (names.length : Int).toNat = names.length by omega, List.take_length] at hk
      -- the functions, in order
      refine ⟨_, rfl, na, names, rfl, SqL.of e6, (by omega), fun ys pS hys hsrt hpS => ?_⟩
      have f7 := FI.new hf f6 hpS (.lst (ys.map V.str))
      have s7 := same_new hpS (.lst (ys.map V.str))
      have ey : (upd H6 pS (.lst (ys.map V.str))) pS = some (.lst (ys.map V.str)) := upd_same
      generalize upd H6 pS (.lst (ys.map V.str)) = H7 at f7 s7 ey ⊢
      have eh7 := s7 _ _ eh6
      have ed7 := s7 _ _ ed6
      have hx7 := dpAll_same (same_del l s7) hx6
      have yl : ys.length = names.length := hys.length_eq
      refine ⟨pS, rfl, ⟨_, SqL.of ey⟩, fun D hDn => ?_⟩
      have nD := new_ne f7.f hDn
      refine lc_list (K := K) (a := pS) (xs := ys.map V.str) (fun i H' => Same H7 H' ∧ ∃ (acc : List V) (fs : List (Str × List Ro)), H' D = some (.lst acc) ∧ DpAll K (del (del H' l) D) acc (fs.map fnD) ∧ fs.map (·.1) = ys.take i ∧ ∀ p ∈ fs, p.2.length ≤ 2000 ∧ ∀ r ∈ p.2, r.fit p.2.length names) ?_ ?_ ?_ ?_
      · exact ⟨same_new hDn _, [], [], upd_same, .nil, rfl, fun _ m => nomatch m⟩
      · rintro i H' _ ⟨e, _⟩
        exact SqL.of (e _ _ ey)
      · rintro i x H8 hix ⟨e8, acc, fs, eD, hacc, hti, hfok⟩
        obtain ⟨nm, hnm, rfl⟩ : ∃ nm, ys[i]? = some nm ∧ x = V.str nm := by
          rw [List.getElem?_map] at hix
          cases c : ys[i]? with
          | none => rw [c] at hix; cases hix
          | some nm => rw [c] at hix; exact ⟨nm, rfl, (Option.some.inj hix).symm⟩
        have hnn : nm ∈ names := hys.mem_iff.mp (List.mem_of_getElem? hnm)
        obtain ⟨z, rs, h1, h2, h3, h4⟩ := hk nm hnn
        have ed8 := e8 _ _ ed7
        have dg : DGet H8 fd (.str nm) (some z) := .inl ⟨_, Sum.inr nm, .inl ed8, rfl, h1.symm ▸ rfl⟩
        refine ⟨rfl, ?_⟩
        refine ⟨_, rfl, _, rfl, _, rfl, fd, _, rfl, dg, ?_⟩
        refine ⟨(by show 3 ≤ sizeLine; decide), fun p hp => ?_⟩
        have eD9 := same_new hp (.tup [.str nm, .int 0, z]) _ _ eD
        have al : acc.length = i := by
          rw [dp_len hacc, List.length_map, ← List.length_map (f := fun (h : Str × List Ro) => h.1), hti, List.length_take]
          have := (List.getElem?_eq_some_iff.mp hnm).1
          omega
        have np : p ≠ l := fun z => by
          obtain ⟨_, _, _, h, _⟩ := f7.f
          rw [z, e8 _ _ h] at hp; cases hp
        have npD : p ≠ D := fun z => by rw [z, eD] at hp; cases hp
        refine ⟨acc, eD9, (by rw [al]; exact szl (by have := (List.getElem?_eq_some_iff.mp hnm).1; omega)), same_mut (e8.trans (same_new hp _)) hDn, acc ++ [.ref p], fs ++ [(nm, rs)], upd_same, ?_, ?_, fun p m => ?_⟩
        · rw [del_comm, del_upd, List.map_append]
          have hz0 : Dp K (del (del H8 l) D) z (rowsD rs) := dp_off (l := D) (ys := acc) (by rw [del_ne nD]; exact eD) (rows_noL _) (dp_same ((same_del l s7).trans (same_del l e8)) h2)
          have sN : Same (del (del H8 l) D) (del (del (upd H8 p (.tup [.str nm, .int 0, z])) D) l) := by
            rw [del_comm]
            exact same_del l (same_del D (same_new hp _))
          refine dpAll_app (dpAll_same sN hacc) (.tup (.inl (.inl ?_)) (.cons (.str _) (.cons (.int _) (.cons (dp_same sN hz0) .nil))))
          rw [del_ne np, del_ne npD, upd_same]
        · rw [List.map_append, hti, List.take_succ, hnm]; rfl
        · rcases List.mem_append.mp m with m | m
          · exact hfok p m
          · rw [List.mem_singleton.mp m]; exact ⟨h3, h4⟩
      · rintro H8 ⟨e8, acc, fs, eD, hacc, hti, hfok⟩
        rw [List.length_map, List.take_length] at hti
        have wf : WF fs := by
          refine ⟨by rw [hti]; exact hys.nodup_iff.mpr nnd, by rw [hti]; exact hys.mem_iff.mpr nmain, ?_, fun p m => (hfok p m).1, fun p m r mr => fit_sub ((hfok p m).2 r mr) fun t ht => by rw [hti]; exact hys.mem_iff.mpr ht, fun p m => choices_str names hch p.1 (hys.mem_iff.mp (by rw [← hti]; exact List.mem_map.mpr ⟨p, m, rfl⟩))⟩
          have := congrArg List.length hti
          rw [List.length_map] at this
          omega
        refine ⟨D, acc, rfl, .inl ⟨SqL.of eD, fun t1 ht1 => ?_⟩⟩
        have f8 := f7.same e8
        have f9 := FI.new hf f8 ht1 (.tup acc)
        have s9 := same_new ht1 (.tup acc)
        have n1 := new_ne f8.f ht1
        have d9 : Dp K (del (upd H8 t1 (.tup acc)) l) (.ref t1) (.tuple (fs.map fnD)) := .tup (sqTl n1) (dpAll_same ((del_le (del H8 l) D).trans (same_del l s9)) hacc)
        have eh9 := s9 _ _ (e8 _ _ eh7)
        have hx9 := dpAll_same (same_del l (e8.trans s9)) hx7
        generalize upd H8 t1 (.tup acc) = H9 at f9 d9 eh9 hx9 ⊢
        have nhD9 : hD ≠ l := nhD
        have hpos : 0 < hs.length := by omega
        have hget : ∀ i x, hacc0[i]? = some x → ∃ (h : Str × Int × Int) (a : Addr), hs[i]? = some h ∧ h ∈ hs ∧ x = V.ref a ∧ SqT K (del H9 l) a [.str h.1, .int h.2.1, .int h.2.2] := fun i x hx => by
          have hi : i < hs.length := by rw [← hxl]; exact (List.getElem?_eq_some_iff.mp hx).1
          obtain ⟨z, hz1, hz2⟩ := head_get hx9 hi
          rw [hx] at hz1
          obtain rfl := Option.some.inj hz1
          obtain ⟨a, rfl, ha⟩ := head_inv hz2
          exact ⟨hs[i], a, List.getElem?_eq_getElem hi, List.getElem_mem hi, rfl, ha⟩
        have owns : ∀ m, m ∈ (hs.map (·.2.1)) → 1 ≤ m ∧ m ≤ 16 := fun m mm => by
          obtain ⟨h, mh, rfl⟩ := List.mem_map.mp mm
          exact ⟨(hsok h mh).1, (hsok h mh).2.1⟩
        dsimp only
        refine ⟨_, rfl, hD, rfl, ⟨_, SqL.of eh9⟩, fun D2 hD2 => ?_⟩
        have nD2 := new_ne f9.f hD2
        refine lc_list (K := K) (a := hD) (xs := hacc0) (fun i H' => Same H9 H' ∧ H' D2 = some (.lst (iV ((hs.map (·.2.1)).take i)))) ?_ ?_ ?_ ?_
        · exact ⟨same_new hD2 _, upd_same⟩
        · rintro i H' _ ⟨e, _⟩
          exact SqL.of (e _ _ eh9)
        · rintro i x HA hix ⟨eA, eD2⟩
          obtain ⟨h, a, hh1, hh2, rfl, ha⟩ := hget i x hix
          refine ⟨rfl, ?_⟩
          refine ⟨_, rfl, a, _, _, _, rfl, rfl, seqT_same ((del_le H9 l).trans eA) ha, (by rfl : _ = some (V.int h.2.1)), _, eD2, (by rw [iV_len, List.length_take, List.length_map]; exact szl (by omega)), same_mut eA hD2, ?_⟩
          rw [upd_same, iV_app, List.take_succ, List.getElem?_map, hh1]
          rfl
        · rintro HA ⟨eA, eD2⟩
          rw [List.take_of_length_le (by rw [List.length_map, hxl]; exact Nat.le_refl _)] at eD2
          refine ⟨D2, _, rfl, SqL.of eD2, (by rw [List.length_map]; exact hpos), fun need hneed _ => ?_⟩
          have hn := owns need hneed
          have fA := f9.same eA
          have ehA := eA _ _ eh9
          -- the widest that all have
          refine ⟨(by show 1 ≤ sizeLine; decide), fun p8 hp8 => ?_⟩
          have fB := FI.new hf fA hp8 (.lst [.int 8])
          have sB := eA.trans (same_new hp8 (.lst [.int 8]))
          have e8B : (upd HA p8 (.lst [.int 8])) p8 = some (.lst [.int 8]) := upd_same
          generalize upd HA p8 (.lst [.int 8]) = HB at fB sB e8B ⊢
          refine ⟨_, rfl, hD, rfl, ⟨_, SqL.of (sB _ _ eh9)⟩, fun D3 hD3 => ?_⟩
          refine lc_list (K := K) (a := hD) (xs := hacc0) (fun i H' => Same HB H' ∧ H' D3 = some (.lst (iV ((hs.map (·.2.1)).take i)))) ?_ ?_ ?_ ?_
          · exact ⟨same_new hD3 _, upd_same⟩
          · rintro i H' _ ⟨e, _⟩
            exact SqL.of (e _ _ (sB _ _ eh9))
          · rintro i x HC hix ⟨eC, eD3⟩
            obtain ⟨h, a, hh1, hh2, rfl, ha⟩ := hget i x hix
            refine ⟨rfl, ?_⟩
            refine ⟨_, rfl, a, _, _, _, rfl, rfl, seqT_same (((del_le H9 l).trans sB).trans eC) ha, (by rfl : _ = some (V.int h.2.1)), _, eD3, (by rw [iV_len, List.length_take, List.length_map]; exact szl (by omega)), same_mut eC hD3, ?_⟩
            rw [upd_same, iV_app, List.take_succ, List.getElem?_map, hh1]
            rfl
          · rintro HC ⟨eC, eD3⟩
            rw [List.take_of_length_le (by rw [List.length_map, hxl]; exact Nat.le_refl _)] at eD3
            have fC := fB.same eC
            have sC := sB.trans eC
            refine ⟨p8, D3, _, _, rfl, rfl, eC _ _ e8B, eD3, (by rw [iV_len, List.length_map]; simp only [List.length_cons, List.length_nil]; exact Nat.le_of_lt (szl (by omega))), fun p9 hp9 => ?_⟩
            have fD := FI.new hf fC hp9 (.lst ([V.int 8] ++ iV (hs.map (·.2.1))))
            have sD := sC.trans (same_new hp9 (.lst ([V.int 8] ++ iV (hs.map (·.2.1)))))
            have e9D : SqL K (upd HC p9 (.lst ([V.int 8] ++ iV (hs.map (·.2.1))))) p9 ((8 :: hs.map (·.2.1)).map V.int) := SqL.of upd_same
            generalize upd HC p9 (.lst ([V.int 8] ++ iV (hs.map (·.2.1)))) = HD at fD sD e9D ⊢
            refine ⟨p9, _, rfl, e9D, (by simp only [List.length_cons]; omega), fun wide hwide _ => ?_⟩
            have hw : 1 ≤ wide ∧ wide ≤ 16 := by
              rcases List.mem_cons.mp hwide with z | z
              · omega
              · exact owns wide z
            have d9D := dp_same (same_del l sD) d9
            have ehD := sD _ _ eh9
            refine ⟨_, rfl, _, rfl, _, rfl, _, _, rfl, rfl, l, _, q, ns, rfl, fD.f, by omega, by omega, fun tk HE tk0 tk1 gE kE => ?_⟩
            have fE := fD.draw gE kE
            have ehE := Same.off kE nhD ehD
            obtain ⟨z0, hz0, hz1⟩ := head_get hx9 (i := 0) hpos
            obtain ⟨a0, rfl, ha0⟩ := head_inv hz1
            have ha0E : SqT K HE a0 [.str hs[0].1, .int hs[0].2.1, .int hs[0].2.2] := seqT_same (((same_del l sD).trans kE).trans (del_le HE l)) ha0
            refine ⟨_, rfl, hD, _, _, _, rfl, rfl, SqL.of ehE, atI_nat (j := 0) hz0, a0, _, _, _, rfl, rfl, ha0E, (by rfl : _ = some (V.int hs[0].2.2)), _, rfl, ?_⟩
            refine ⟨(by show 4 ≤ sizeLine; decide), fun pz hpz => ?_⟩
            have fF := FI.new hf fE hpz (.tup [V.int need, V.int tk, V.int hs[0].2.2, V.ref t1])
            have npz := new_ne fE.f hpz
            refine k (.ref pz) _ need tk hs[0].2.2 fs fF.f fF.s (.tup (sqTl npz) (.cons (.int _) (.cons (.int _) (.cons (.int _) (.cons ?_ .nil))))) wf (by omega) (by omega) tk0 (by omega) (hsok _ (List.getElem_mem hpos)).2.2
            exact dpl_new (dp_same kE d9D) hpz _
end
end Lk

set_option Elab.async false
set_option linter.all false
set_option maxRecDepth 100000
set_option maxHeartbeats 4000000
namespace Lk
open PySem PySem.Spec PyProof.Rows L2
/-! ### data that repr tells in few signs -/
mutual
def smB : PyData → Bool
  | .int i => decide (0 ≤ i) && decide (i < 1000000)
  | .str s => decide ((reprText s).length ≤ 20)
  | .list ds => smBs ds
  | .tuple ds => smBs ds
  | .none => true
  | .bool _ => true
  | .dict _ => false
def smBs : List PyData → Bool
  | [] => true
  | d :: ds => smB d && smBs ds
end
mutual
def nodes : PyData → Nat
  | .list ds => 1 + nodesL ds
  | .tuple ds => 1 + nodesL ds
  | _ => 1
def nodesL : List PyData → Nat
  | [] => 0
  | d :: ds => nodes d + nodesL ds
end
theorem sml_log {i : Int} (h0 : 0 ≤ i) (h1 : i < 1000000) : i.natAbs.log2 < 1920 := by
  have : i.natAbs < 2 ^ 20 := by omega
  by_cases c : i.natAbs = 0
  · rw [c]; decide
  · have := (Nat.log2_lt c).mpr this
    omega
theorem list_text : ∀ ts : List Str, (listText ts).length ≤ piled ts + 2
  | [] => by decide +kernel
  | t :: ts => by
    have e : listText (t :: ts) = textFrom 1 (("[" : Str) ++ (if 0 > 0 then ", " else "" : String) ++ t) ts ++ "]" := rfl
    have h := textFrom_length_pos ts 1 (("[" : Str) ++ (if 0 > 0 then ", " else "" : String) ++ t) (Nat.succ_pos _)
    have l1 : (("[" : Str) ++ (if 0 > 0 then ", " else "" : String) ++ t).length = 1 + t.length := by
      rw [Str.length_append, Str.length_append]
      rfl
    have l2 : (("]" : Str)).length = 1 := rfl
    rw [e, Str.length_append, h, l1, piled_cons, l2]
    omega
mutual
theorem few_signs : ∀ d : PyData, smB d = true → d.showable = true ∧ d.hasDict = false ∧ d.shown.length + 2 ≤ 24 * nodes d
  | .int i, h => by
    obtain ⟨a, b⟩ := Bool.and_eq_true_iff.mp h
    have h0 := of_decide_eq_true a
    have h1 := of_decide_eq_true b
    refine ⟨decide_eq_true (sml_log h0 h1), rfl, ?_⟩
    show (Str.ofString (toString i)).length + 2 ≤ 24 * 1
    rw [PySem.ofString_length]
    have := int_text_length_le10 (a := i) (k := 6) (by decide) (by omega)
    omega
  | .str s, h => by
    have := of_decide_eq_true h
    exact ⟨rfl, rfl, by show (reprText s).length + 2 ≤ 24 * 1; omega⟩
  | .none, _ => ⟨rfl, rfl, by decide +kernel⟩
  | .bool true, _ => ⟨rfl, rfl, by decide +kernel⟩
  | .bool false, _ => ⟨rfl, rfl, by decide +kernel⟩
  | .dict _, h => nomatch h
  | .list ds, h => by
    obtain ⟨a, b, c⟩ := few_signsL ds h
    refine ⟨a, b, ?_⟩
    have := list_text (PyData.shownAll ds)
    show (listText (PyData.shownAll ds)).length + 2 ≤ 24 * (1 + nodesL ds)
    omega
  | .tuple ds, h => by
    obtain ⟨a, b, c⟩ := few_signsL ds h
    refine ⟨a, b, ?_⟩
    have := fmt_text (PyData.shownAll ds)
    show (tupleText (PyData.shownAll ds)).length + 2 ≤ 24 * (1 + nodesL ds)
    omega
theorem few_signsL : ∀ ds : List PyData, smBs ds = true → PyData.showableAll ds = true ∧ PyData.hasDictAll ds = false ∧ piled (PyData.shownAll ds) ≤ 24 * nodesL ds
  | [], _ => ⟨rfl, rfl, Nat.le_refl _⟩
  | d :: ds, h => by
    obtain ⟨h1, h2⟩ := Bool.and_eq_true_iff.mp h
    obtain ⟨a1, b1, c1⟩ := few_signs d h1
    obtain ⟨a2, b2, c2⟩ := few_signsL ds h2
    refine ⟨?_, ?_, ?_⟩
    · show (d.showable && PyData.showableAll ds) = true
      rw [a1, a2]; rfl
    · show (d.hasDict || PyData.hasDictAll ds) = false
      rw [b1, b2]; rfl
    · show piled (d.shown :: PyData.shownAll ds) ≤ 24 * (nodes d + nodesL ds)
      rw [piled_cons]
      omega
end
/-- repr can be asked -/
structure Rp (d : PyData) : Prop where
  i : isDisplay d = true
  s : smB d = true
  n : nodes d ≤ 690000
  d : d.depth ≤ 100
theorem smBs_map {α : Type} {f : α → PyData} : ∀ {l : List α}, (∀ x ∈ l, smB (f x) = true) → smBs (l.map f) = true
  | [], _ => rfl
  | x :: l, h => by
    show (smB (f x) && smBs (l.map f)) = true
    rw [h x List.mem_cons_self, smBs_map fun y m => h y (List.mem_cons_of_mem _ m)]; rfl
theorem nodesL_map {α : Type} {f : α → PyData} {k : Nat} : ∀ {l : List α}, (∀ x ∈ l, nodes (f x) ≤ k) → nodesL (l.map f) ≤ k * l.length
  | [], _ => Nat.zero_le _
  | x :: l, h => by
    show nodes (f x) + nodesL (l.map f) ≤ k * (l.length + 1)
    have h1 := h x List.mem_cons_self
    have h2 := nodesL_map (k := k) fun y m => h y (List.mem_cons_of_mem _ m)
    rw [Nat.mul_add]
    omega
theorem depthAll_map {α : Type} {f : α → PyData} {k : Nat} : ∀ {l : List α}, (∀ x ∈ l, (f x).depth ≤ k) → PyData.depthAll (l.map f) ≤ k
  | [], _ => Nat.zero_le _
  | x :: l, h => by
    show max (f x).depth (PyData.depthAll (l.map f)) ≤ k
    have h1 := h x List.mem_cons_self
    have h2 := depthAll_map (k := k) fun y m => h y (List.mem_cons_of_mem _ m)
    omega
theorem smBs_all : ∀ {l : List PyData}, (∀ x ∈ l, smB x = true) → smBs l = true := fun {l} h => by
  have := smBs_map (f := id) (l := l) h
  rwa [List.map_id] at this
theorem nodesL_all {k : Nat} {l : List PyData} (h : ∀ x ∈ l, nodes x ≤ k) : nodesL l ≤ k * l.length := by
  have := nodesL_map (f := id) (l := l) h
  rwa [List.map_id] at this
theorem depthAll_all {k : Nat} {l : List PyData} (h : ∀ x ∈ l, x.depth ≤ k) : PyData.depthAll l ≤ k := by
  have := depthAll_map (f := id) (l := l) h
  rwa [List.map_id] at this
theorem sm_int {i : Int} (h : sml i) : smB (.int i) = true := Bool.and_eq_true_iff.mpr ⟨decide_eq_true h.1, decide_eq_true h.2⟩
theorem sml_reg {i : Int} (h : reg i) : sml i := ⟨h.1, by have := h.2; omega⟩
theorem sm_plain : ∀ k : Bool, smB (.str (Ro.plain k).verb) = true := by decide +kernel
theorem sm_cell : ∀ k : Fin 3, smB (.str (cellV k)) = true := by decide +kernel
theorem sm_two : ∀ k : Bool, smB (.str (Ro.two k 0 0).verb) = true := by decide +kernel
theorem sm_op : ∀ k : Fin 7, smB (.str (opV k)) = true := by decide +kernel
theorem sm_strs : smB (.str "number") = true ∧ smB (.str "call") = true ∧ smB (.str "jump") = true ∧ smB (.str "nought") = true := by decide +kernel
theorem ands {a b : Bool} (x : a = true) (y : b = true) : (a && b) = true := by rw [x, y]; rfl
theorem row_sm {r : Ro} {n : Nat} {ts : List Str} (h : r.fit n ts) (hn : n ≤ 2000) (ht : ∀ t ∈ ts, (reprText t).length ≤ 20) : smB r.d = true ∧ nodes r.d ≤ 7 ∧ r.d.depth ≤ 1 := by
  obtain ⟨s1, s2, s3, s4⟩ := sm_strs
  cases r with
  | plain k => exact ⟨ands (sm_plain k) rfl, by show 1 + (1 + 0) ≤ 7; decide, Nat.le_refl _⟩
  | cell k c => exact ⟨ands (sm_cell k) (ands (sm_int (sml_reg h)) rfl), by show 1 + (1 + (1 + 0)) ≤ 7; decide, Nat.le_refl _⟩
  | num b n => exact ⟨ands s1 (ands (sm_int (sml_reg h.1)) (ands (sm_int h.2) rfl)), by show 1 + (1 + (1 + (1 + 0))) ≤ 7; decide, Nat.le_refl _⟩
  | two k b c => exact ⟨ands (sm_two k) (ands (sm_int (sml_reg h.1)) (ands (sm_int (sml_reg h.2)) rfl)), by show 1 + (1 + (1 + (1 + 0))) ≤ 7; decide, Nat.le_refl _⟩
  | op k b c d pl =>
    cases pl with
    | none => exact ⟨ands (sm_op k) (ands (sm_int (sml_reg h.1)) (ands (sm_int (sml_reg h.2.1)) (ands (sm_int (sml_reg h.2.2.1)) rfl))), by show 1 + (1 + (1 + (1 + (1 + 0)))) ≤ 7; decide, Nat.le_refl _⟩
    | some m => exact ⟨ands (sm_op k) (ands (sm_int (sml_reg h.1)) (ands (sm_int (sml_reg h.2.1)) (ands (sm_int (sml_reg h.2.2.1)) (ands (sm_int (h.2.2.2.2 m rfl)) rfl)))), by show 1 + (1 + (1 + (1 + (1 + (1 + 0))))) ≤ 7; decide, Nat.le_refl _⟩
  | call t m => exact ⟨ands s2 (ands (decide_eq_true (ht t h.1)) (ands (sm_int h.2) rfl)), by show 1 + (1 + (1 + (1 + 0))) ≤ 7; decide, Nat.le_refl _⟩
  | jump t => exact ⟨ands s3 (ands (sm_int ⟨by omega, by have : t ≤ n := h; omega⟩) rfl), by show 1 + (1 + (1 + 0)) ≤ 7; decide, Nat.le_refl _⟩
  | nought b t => exact ⟨ands s4 (ands (sm_int (sml_reg h.1)) (ands (sm_int ⟨by omega, by have : t ≤ n := h.2; omega⟩) rfl)), by show 1 + (1 + (1 + (1 + 0))) ≤ 7; decide, Nat.le_refl _⟩
theorem linked_rp {fs : List (Str × List Ro)} (W : WF fs) {n tk g : Int} (hn : sml n) (ht : sml tk) (hg : sml g) : Rp (linkedD n tk g fs) := by
  have hts : ∀ t ∈ fs.map (·.1), (reprText t).length ≤ 20 := fun t m => by
    obtain ⟨p, mp, rfl⟩ := List.mem_map.mp m
    exact W.str p mp
  have rows : ∀ p ∈ fs, ∀ r ∈ p.2, smB r.d = true ∧ nodes r.d ≤ 7 ∧ r.d.depth ≤ 1 := fun p mp r mr => row_sm (W.fit p mp r mr) (W.len p mp) hts
  have fnk : ∀ p ∈ fs, smB (fnD p) = true ∧ nodes (fnD p) ≤ 15000 ∧ (fnD p).depth ≤ 3 := fun p mp => by
    refine ⟨ands (decide_eq_true (W.str p mp)) (ands rfl (ands (smBs_map fun r mr => (rows p mp r mr).1) rfl)), ?_, ?_⟩
    · show 1 + (1 + (1 + ((1 + nodesL (p.2.map Ro.d)) + 0))) ≤ 15000
      have := nodesL_map (f := Ro.d) (l := p.2) fun r mr => (rows p mp r mr).2.1
      have := W.len p mp
      omega
    · have := depthAll_map (f := Ro.d) (l := p.2) fun r mr => (rows p mp r mr).2.2
      show max 0 (max 0 (max (PyData.depthAll (p.2.map Ro.d) + 1) 0)) + 1 ≤ 3
      omega
  refine ⟨rfl, ands (sm_int hn) (ands (sm_int ht) (ands (sm_int hg) (ands (smBs_map fun p mp => (fnk p mp).1) rfl))), ?_, ?_⟩
  · show 1 + (1 + (1 + (1 + ((1 + nodesL (fs.map fnD)) + 0)))) ≤ 690000
    have := nodesL_map (f := fnD) (l := fs) fun p mp => (fnk p mp).2.1
    have := W.few
    omega
  · have := depthAll_map (f := fnD) (l := fs) fun p mp => (fnk p mp).2.2
    show max 0 (max 0 (max 0 (max (PyData.depthAll (fs.map fnD) + 1) 0))) + 1 ≤ 100
    omega
/-! bounds of addresses -/
theorem base_bd {fs : List (Str × List Ro)} (W : WF fs) {j : Nat} (h : j ≤ fs.length) : 0 ≤ baseAt fs j ∧ baseAt fs j ≤ 40000 := by
  rw [← words_allTo fs j h]
  have a1 := wordsE_le (allTo fs j)
  have a2 := allTo_le W j h
  have := W.few
  omega
theorem adr_bd {rs : List Ro} {n : Nat} (h : n ≤ rs.length) : 0 ≤ adr rs n ∧ adr rs n ≤ 2 * n := by
  rw [← words_entsTo 0 [] rs n h]
  have a1 := wordsE_le (entsTo 0 [] rs n)
  rw [entsTo_len] at a1
  omega
theorem look_bd {fs : List (Str × List Ro)} (W : WF fs) (t : Str) : 0 ≤ (look (startsOf fs) t).getD 0 ∧ (look (startsOf fs) t).getD 0 ≤ 40000 := by
  cases e : look (startsOf fs) t with
  | none => exact ⟨Int.le_refl _, by decide⟩
  | some m =>
    unfold look at e
    cases f : (startsOf fs).find? (fun p => p.1 == t) with
    | none => rw [f] at e; cases e
    | some p =>
      rw [f] at e
      obtain rfl : p.2 = m := Option.some.inj e
      obtain ⟨j, hj, rfl⟩ := List.mem_map.mp (List.mem_of_find?_eq_some f)
      exact base_bd W (by have := List.mem_range.mp hj; omega)
/-- an entry's numbers are small -/
structure ESm (e : Ent) : Prop where
  ok : e.ok
  a : sml e.a
  t : sml e.t
  n : ∀ b n, e.r = .num b n → sml n
theorem ent_sm {fs : List (Str × List Ro)} (W : WF fs) : ∀ e ∈ allE fs, ESm e := by
  intro e he
  have hok := all_ok W e he
  obtain ⟨j, hj, hm⟩ := List.mem_flatMap.mp he
  obtain ⟨k, hk, rfl⟩ := List.mem_map.mp hm
  have hj' := List.mem_range.mp hj
  have hk' := List.mem_range.mp hk
  have hF := Fns.at_mem (fs := fs) hj'
  have hft := W.fit _ hF _ (getD_mem' hk')
  have hl := W.len _ hF
  have hb := base_bd W (Nat.le_of_lt hj')
  refine ⟨hok, ?_, ?_, ?_⟩
  · have := adr_bd (rs := (Fns.at fs j).2) (n := k) (by omega)
    show sml (baseAt fs j + adr (Fns.at fs j).2 k)
    unfold sml
    omega
  · show sml (((Fns.at fs j).2.getD k (.plain true)).to (fun t => baseAt fs j + adr (Fns.at fs j).2 t) (startsOf fs))
    generalize (Fns.at fs j).2.getD k (.plain true) = r at hft
    cases r with
    | jump t =>
      have ht : t ≤ (Fns.at fs j).2.length := hft
      have := adr_bd ht
      show sml (baseAt fs j + adr (Fns.at fs j).2 t)
      unfold sml
      omega
    | nought c t =>
      have ht : t ≤ (Fns.at fs j).2.length := hft.2
      have := adr_bd ht
      show sml (baseAt fs j + adr (Fns.at fs j).2 t)
      unfold sml
      omega
    | call t m =>
      have := look_bd W t
      show sml ((look (startsOf fs) t).getD 0)
      unfold sml
      omega
    | _ => exact ⟨Int.le_refl _, by show (0 : Int) < 1000000; decide⟩
  · intro b m hr
    have hr' : (Fns.at fs j).2.getD k (.plain true) = .num b m := hr
    rw [hr'] at hft
    exact hft.2
theorem w0_sm {e : Ent} (h : ESm e) : sml e.w0 := by
  obtain ⟨h0, ⟨h1, h2⟩, ⟨h3, h4⟩, ⟨h5, h6⟩⟩ := reg_of h.ok
  have hv : e.v ≤ 15 := by
    obtain ⟨a, r, lg, t⟩ := e
    cases r with
    | op k b c d pl => have := k.isLt; show (k.val : Int) + 4 ≤ 15; omega
    | two k b c =>
      cases k
      · exact (show (3 : Int) ≤ 15 by decide)
      · exact (show (2 : Int) ≤ 15 by decide)
    | jump u =>
      cases lg
      · exact (show (11 : Int) ≤ 15 by decide)
      · exact (show (12 : Int) ≤ 15 by decide)
    | nought b u =>
      cases lg
      · exact (show (13 : Int) ≤ 15 by decide)
      · exact (show (14 : Int) ≤ 15 by decide)
    | plain k => exact (show (0 : Int) ≤ 15 by decide)
    | cell k c => exact (show (0 : Int) ≤ 15 by decide)
    | num b n => exact (show (1 : Int) ≤ 15 by decide)
    | call u n => exact (show (15 : Int) ≤ 15 by decide)
  unfold Ent.w0 sml
  omega
theorem snd_sm {e : Ent} (h : ESm e) : ∀ n ∈ e.snd.toList, sml n := by
  intro n hn
  obtain ⟨a, r, lg, t⟩ := e
  cases r with
  | num b m =>
    have : n = m := by simpa [Ent.snd] using hn
    rw [this]; exact h.n b m rfl
  | call u m =>
    have : n = t := by simpa [Ent.snd] using hn
    rw [this]; exact h.t
  | jump u =>
    cases lg with
    | true => have : n = t := by simpa [Ent.snd] using hn
              rw [this]; exact h.t
    | false => simp [Ent.snd] at hn
  | nought b u =>
    cases lg with
    | true => have : n = t := by simpa [Ent.snd] using hn
              rw [this]; exact h.t
    | false => simp [Ent.snd] at hn
  | _ => simp [Ent.snd] at hn
theorem words_sm {es : List Ent} (h : ∀ e ∈ es, ESm e) : ∀ n ∈ wordsE es, sml n := by
  intro n hn
  obtain ⟨e, me, hm⟩ := List.mem_flatMap.mp hn
  rw [ws_eq] at hm
  rcases List.mem_cons.mp hm with rfl | hm
  · exact w0_sm (h e me)
  · exact snd_sm (h e me) n hm
theorem words_rp {ws : List Int} (h : ∀ n ∈ ws, sml n) : smB (.tuple (ws.map .int)) = true ∧ nodes (.tuple (ws.map .int)) ≤ 1 + ws.length ∧ (PyData.tuple (ws.map .int)).depth ≤ 1 := by
  refine ⟨smBs_map fun n m => sm_int (h n m), ?_, ?_⟩
  · have := nodesL_map (f := PyData.int) (l := ws) (k := 1) fun n _ => Nat.le_refl _
    show 1 + nodesL (ws.map .int) ≤ 1 + ws.length
    omega
  · have := depthAll_map (f := PyData.int) (l := ws) (k := 0) fun n _ => Nat.le_refl _
    show PyData.depthAll (ws.map .int) + 1 ≤ 1
    omega
theorem back_sm {e : Ent} (h : ESm e) : smB e.back = true ∧ nodes e.back ≤ 8 ∧ e.back.depth ≤ 2 := by
  obtain ⟨s1, s2, s3, s4⟩ := sm_strs
  obtain ⟨a, r, lg, t⟩ := e
  have ha : smB (.int a) = true := sm_int h.a
  have ht : smB (.int t) = true := sm_int h.t
  have hok := h.ok
  cases r with
  | plain k => exact ⟨ands ha (ands (ands (sm_plain k) rfl) rfl), by show 1 + (1 + (1 + (1 + 0) + 0)) ≤ 8; decide, Nat.le_refl _⟩
  | cell k c => exact ⟨ands ha (ands (ands (sm_cell k) (ands (sm_int (sml_reg hok)) rfl)) rfl), by show 1 + (1 + (1 + (1 + (1 + 0)) + 0)) ≤ 8; decide, Nat.le_refl _⟩
  | num b n => exact ⟨ands ha (ands (ands s1 (ands (sm_int (sml_reg hok)) (ands (sm_int (h.n b n rfl)) rfl))) rfl), by show 1 + (1 + (1 + (1 + (1 + (1 + 0))) + 0)) ≤ 8; decide, Nat.le_refl _⟩
  | two k b c => exact ⟨ands ha (ands (ands (sm_two k) (ands (sm_int (sml_reg hok.1)) (ands (sm_int (sml_reg hok.2)) rfl))) rfl), by show 1 + (1 + (1 + (1 + (1 + (1 + 0))) + 0)) ≤ 8; decide, Nat.le_refl _⟩
  | op k b c d pl => exact ⟨ands ha (ands (ands (sm_op k) (ands (sm_int (sml_reg hok.1)) (ands (sm_int (sml_reg hok.2.1)) (ands (sm_int (sml_reg hok.2.2)) rfl)))) rfl), by show 1 + (1 + (1 + (1 + (1 + (1 + (1 + 0)))) + 0)) ≤ 8; decide, Nat.le_refl _⟩
  | call u m => exact ⟨ands ha (ands (ands s2 (ands ht rfl)) rfl), by show 1 + (1 + (1 + (1 + (1 + 0)) + 0)) ≤ 8; decide, Nat.le_refl _⟩
  | jump u => exact ⟨ands ha (ands (ands s3 (ands ht rfl)) rfl), by show 1 + (1 + (1 + (1 + (1 + 0)) + 0)) ≤ 8; decide, Nat.le_refl _⟩
  | nought b u => exact ⟨ands ha (ands (ands s4 (ands (sm_int (sml_reg hok.1)) (ands ht rfl))) rfl), by show 1 + (1 + (1 + (1 + (1 + (1 + 0))) + 0)) ≤ 8; decide, Nat.le_refl _⟩
theorem back_rp {fs : List (Str × List Ro)} (W : WF fs) : smB (backD (allE fs)) = true ∧ nodes (backD (allE fs)) ≤ 170000 ∧ (backD (allE fs)).depth ≤ 3 := by
  have hE := ent_sm W
  refine ⟨smBs_map fun e m => (back_sm (hE e m)).1, ?_, ?_⟩
  · have := nodesL_map (f := Ent.back) (l := allE fs) fun e m => (back_sm (hE e m)).2.1
    have h2 := allTo_le W fs.length (Nat.le_refl _)
    have h3 : (allE fs).length = (allTo fs fs.length).length := rfl
    have := W.few
    show 1 + nodesL ((allE fs).map Ent.back) ≤ 170000
    omega
  · have := depthAll_map (f := Ent.back) (l := allE fs) fun e m => (back_sm (hE e m)).2.2
    show PyData.depthAll ((allE fs).map Ent.back) + 1 ≤ 3
    omega
theorem place_sm {t : Str} {a : Int} {r : Ro} (ht : (reprText t).length ≤ 20) (ha : sml a) (hp : ∀ n, r.pl = some n → sml n) : ∀ d ∈ r.place t a, smB d = true ∧ nodes d ≤ 4 ∧ d.depth ≤ 1 := by
  intro d hd
  rw [place_eq] at hd
  cases e : r.pl with
  | none => rw [e] at hd; cases hd
  | some n =>
    rw [e] at hd
    obtain rfl := List.mem_singleton.mp hd
    exact ⟨ands (sm_int ha) (ands (decide_eq_true ht) (ands (sm_int (hp n e)) rfl)), by show 1 + (1 + (1 + (1 + 0))) ≤ 4; decide, Nat.le_refl _⟩
theorem pl_sm {r : Ro} {n : Nat} {ts : List Str} (h : r.fit n ts) : ∀ m, r.pl = some m → sml m := by
  intro m hm
  cases r with
  | op k b c d pl => exact h.2.2.2.2 m hm
  | call t p => cases hm; exact h.2
  | _ => cases hm
theorem places_sm {fs : List (Str × List Ro)} (W : WF fs) : ∀ d ∈ placesAll fs fs.length, smB d = true ∧ nodes d ≤ 4 ∧ d.depth ≤ 1 := by
  intro d hd
  obtain ⟨j, hj, hm⟩ := List.mem_flatMap.mp hd
  obtain ⟨e, he, hde⟩ := List.mem_flatMap.mp hm
  have hj' := List.mem_range.mp hj
  have hF := Fns.at_mem (fs := fs) hj'
  have hE := ent_sm W e (List.mem_flatMap.mpr ⟨j, hj, he⟩)
  obtain ⟨k, hk, rfl⟩ := List.mem_map.mp he
  have hk' := List.mem_range.mp hk
  exact place_sm (W.str _ hF) hE.a (pl_sm (W.fit _ hF _ (getD_mem' hk'))) d hde
theorem image_rp {fs : List (Str × List Ro)} (W : WF fs) {n tk g : Int} (hn : sml n) (ht : sml tk) (hg : sml g) : smB (imageD n tk g fs) = true ∧ nodes (imageD n tk g fs) ≤ 130000 ∧ (imageD n tk g fs).depth ≤ 3 := by
  have hw := words_rp (words_sm (ent_sm W))
  have hp := places_sm W
  have hl1 : (wordsE (allE fs)).length ≤ 40000 := by
    have a1 := wordsE_le (allE fs)
    have h2 := allTo_le W fs.length (Nat.le_refl _)
    have h3 : (allE fs).length = (allTo fs fs.length).length := rfl
    have := W.few
    omega
  have hl2 : (placesAll fs fs.length).length ≤ 20000 := by
    have a2 := placesAll_le W fs.length (Nat.le_refl _)
    have := W.few
    omega
  have hm : sml (mainAt fs) := by
    have := look_bd W "main"
    unfold mainAt sml
    omega
  refine ⟨ands hw.1 (ands (sm_int hm) (ands (sm_int hn) (ands (sm_int ht) (ands (sm_int hg) (ands (smBs_all fun d m => (hp d m).1) rfl))))), ?_, ?_⟩
  · have h1 := hw.2.1
    have h2 := nodesL_all (l := placesAll fs fs.length) fun d m => (hp d m).2.1
    show 1 + (nodes (.tuple ((wordsE (allE fs)).map .int)) + (1 + (1 + (1 + (1 + ((1 + nodesL (placesAll fs fs.length)) + 0)))))) ≤ 130000
    omega
  · have h1 := hw.2.2
    have h2 := depthAll_all (l := placesAll fs fs.length) fun d m => (hp d m).2.2
    show max (PyData.tuple ((wordsE (allE fs)).map .int)).depth (max 0 (max 0 (max 0 (max 0 (max (PyData.depthAll (placesAll fs fs.length) + 1) 0))))) + 1 ≤ 3
    omega
/-- repr, where none is under way -/
def rReprR (K : PySem.W.Frag) : List V → Hp → VK → Prop := fun xs H Q => ∃ (x : V) (d : PyData), xs = [x] ∧ Dp K H x d ∧ Rp d ∧ Q (.str d.shown) H
theorem call_reprR {X : Cx} (gu : X.A.guards = some []) (hu : X.A.units + 200 < cLine) : CallR X (.builtin "repr") (rReprR X.K) := by
  intro pins s σ H xs us Q I r h
  obtain ⟨x, d, e, hd, R, q⟩ := h
  obtain ⟨a, b, c⟩ := few_signs d R.s
  refine call_reprD gu hu pins s σ H xs us Q I r ⟨x, d, e, hd, R.i, a, b, R.d, ?_, q⟩
  have := R.n
  have : sizeLine = 16777216 := by decide
  omega
end Lk

set_option Elab.async false
set_option linter.all false
set_option maxRecDepth 100000
set_option maxHeartbeats 4000000
namespace Lk
open PySem PySem.Spec PyProof.Rows L2
def fewL : List (List Ro × List Int) := [
  ([.nought 15 7] ++ List.replicate 6 (.plain true) ++ [.plain false], [57103] ++ List.replicate 6 0 ++ [256]),
  ([.nought 15 8] ++ List.replicate 7 (.plain true) ++ [.plain false], [61184, 9] ++ List.replicate 7 0 ++ [256]),
  (List.replicate 8 (.plain true) ++ [.jump 0], List.replicate 8 0 ++ [45056]),
  (List.replicate 9 (.plain true) ++ [.jump 0], List.replicate 9 0 ++ [49152, 0]),
  ([.jump 3, .num 2 61440, .cell 0 5, .plain false], [45068, 4608, 61440, 592, 256]),
  ([.two true 1 15, .two false 15 1, .op 0 1 2 3 none, .op 1 4 5 6 none, .op 2 7 8 9 none] ++ [.op 3 10 11 12 (some 0), .op 4 13 14 15 (some 1), .op 5 0 15 0 none, .op 6 15 0 15 none, .plain false], [8688, 16144, 16675, 21590, 26505, 31420, 36335, 37104, 44815, 256])]
def fewD : List PyData := fewL.map fun p => .tuple [rowsD p.1, .tuple (p.2.map .int)]
def fw0 : PyData := .tuple [.tuple ([.tuple [.str "nought", .int 15, .int 7]] ++ List.replicate (6 : Int).toNat (.tuple [.str "beat"]) ++ [.tuple [.str "back"]]), .tuple ([.int 57103] ++ List.replicate (6 : Int).toNat (.int 0) ++ [.int 256])]
def fw1 : PyData := .tuple [.tuple ([.tuple [.str "nought", .int 15, .int 8]] ++ List.replicate (7 : Int).toNat (.tuple [.str "beat"]) ++ [.tuple [.str "back"]]), .tuple ([.int 61184, .int 9] ++ List.replicate (7 : Int).toNat (.int 0) ++ [.int 256])]
def fw2 : PyData := .tuple [.tuple (List.replicate (8 : Int).toNat (.tuple [.str "beat"]) ++ [.tuple [.str "jump", .int 0]]), .tuple (List.replicate (8 : Int).toNat (.int 0) ++ [.int 45056])]
def fw3 : PyData := .tuple [.tuple (List.replicate (9 : Int).toNat (.tuple [.str "beat"]) ++ [.tuple [.str "jump", .int 0]]), .tuple (List.replicate (9 : Int).toNat (.int 0) ++ [.int 49152, .int 0])]
def fw4 : PyData := .tuple [.tuple [.tuple [.str "jump", .int 3], .tuple [.str "number", .int 2, .int 61440], .tuple [.str "tell", .int 5], .tuple [.str "back"]], .tuple [.int 45068, .int 4608, .int 61440, .int 592, .int 256]]
def fw5 : PyData := .tuple [.tuple ([.tuple [.str "move", .int 1, .int 15], .tuple [.str "swap", .int 15, .int 1], .tuple [.str "add", .int 1, .int 2, .int 3], .tuple [.str "sub", .int 4, .int 5, .int 6], .tuple [.str "mul", .int 7, .int 8, .int 9]] ++ [.tuple [.str "div", .int 10, .int 11, .int 12, .int 0], .tuple [.str "rem", .int 13, .int 14, .int 15, .int 1], .tuple [.str "less", .int 0, .int 15, .int 0], .tuple [.str "same", .int 15, .int 0, .int 15], .tuple [.str "back"]]), .tuple [.int 8688, .int 16144, .int 16675, .int 21590, .int 26505, .int 31420, .int 36335, .int 37104, .int 44815, .int 256]]
theorem few_eq : [fw0, fw1, fw2, fw3, fw4, fw5] = fewD := rfl
theorem few_noL : noL fw0 = true ∧ noL fw1 = true ∧ noL fw2 = true ∧ noL fw3 = true ∧ noL fw4 = true ∧ noL fw5 = true := by decide +kernel
end Lk

set_option Elab.async false
set_option linter.all false
set_option maxRecDepth 100000
set_option pp.maxSteps 1500
set_option maxHeartbeats 4000000
namespace Lk
open PySem PySem.Spec PyProof.Rows L2
def spSame (K : PySem.W.Frag) : Sp := fun vs H Q _ => ∃ (x y : V) (d : PyData), vs = [x, y] ∧ Dp K H x d ∧ Dp K H y d ∧ Rp d ∧ Q (.bl true) H
theorem ee_rep {K : PySem.W.Frag} {σ : L2.St} {H0 : Hp} {l : Addr} {ta : TE} {d : PyData} {k : Int} {zs : List V} (hl : H0 l = some (.lst zs)) (a : EvE K l σ H0 ta (.tuple [d])) (k0 : 0 ≤ k) (k1 : k ≤ 1000) : EvE K l σ H0 (tOp (rRepS K) ta (tC (.int k))) (.tuple (List.replicate k.toNat d)) := fun H Q e kk =>
  a H _ e fun x H1 e1 h1 => by
    obtain ⟨p, xs, rfl, hp, hx⟩ := tup_of h1
    cases hx with
    | cons hx r =>
      cases r
      refine ⟨p, k, _, rfl, rfl, seqT_same (del_le _ l) hp, k0, k1, fun q H2 e2 h2 => ?_⟩
      refine kk _ _ (e1.trans e2) (.tup (seqT_off h2 (((e.trans e1).trans e2) _ _ hl)) ?_)
      have hx2 := dp_same (same_del l e2) hx
      generalize k.toNat = n
      induction n with
      | zero => exact .nil
      | succ n ih => exact .cons hx2 ih
theorem goD {K : PySem.W.Frag} {σ : L2.St} {H0 : Hp} {t : TE} {g : TG} {rest : TS} {D : Ends} {d : PyData} (e : EvD K σ H0 t d) (k : ∀ x H', Same H0 H' → Dp K H' x d → g x σ H' (rest D)) : tSeq (tAsg t g) rest D σ H0 := e H0 _ (Same.refl _) k
theorem goL1 {K : PySem.W.Frag} {σ : L2.St} {H0 : Hp} {t : TE} {i : Nat} {rest : TS} {D : Ends} {d : PyData} (e : EvD K σ H0 t d) (k : ∀ x H' p, Same H0 H' → H' p = none → Dp K H' x d → rest D (σ.set i (some (.ref p))) (upd H' p (.lst [x]))) : tSeq (tAsg (tLst (tCons t tNil)) (gName i)) rest D σ H0 :=
  e H0 _ (Same.refl _) fun x H' s h => ⟨by show 1 ≤ sizeLine; decide, fun p hp => k x H' p s hp h⟩
theorem goA {K : PySem.W.Frag} {σ : L2.St} {H0 : Hp} {t : TE} {i : Nat} {rest : TS} {D : Ends} {d : PyData} {p : Addr} {zs : List V} (hσ : σ[i]? = some (some (.ref p))) (hp : H0 p = some (.lst zs)) (hz : zs.length ≤ 1000) (e : EvE K p σ H0 t d)
    (k : ∀ x H', Same H0 H' → Dp K (del H' p) x d → rest D σ (upd H' p (.lst (zs ++ [x])))) : tSeq (tDrop (tBM K "list" rAppend (tVar i) (tCons t tNil))) rest D σ H0 :=
  ⟨_, hσ, .inl ⟨rfl, _, SqL.of hp⟩, e H0 _ (Same.refl _) fun x H' s h => ⟨p, zs, x, rfl, rfl, s _ _ hp, szl (by omega), k x H' s h⟩⟩
def spFew (K : PySem.W.Frag) : Sp := fun vs H Q _ => vs = [] ∧ ∀ (p : Addr) (xs : List V) (H' : Hp), Same H H' → H p = none → H' p = some (.lst xs) → DpAll K (del H' p) xs fewD → Q (.ref p) H'
theorem ev_rep {K : PySem.W.Frag} {σ : L2.St} {H0 : Hp} {ta : TE} {d : PyData} {k : Int} (a : EvD K σ H0 ta (.tuple [d])) (k0 : 0 ≤ k) (k1 : k ≤ 1000) : EvD K σ H0 (tOp (rRepS K) ta (tC (.int k))) (.tuple (List.replicate k.toNat d)) := fun H Q e kk =>
  a H _ e fun x H1 e1 h1 => by
    obtain ⟨p, xs, rfl, hp, hx⟩ := tup_of h1
    cases hx with
    | cons hx r =>
      cases r
      refine ⟨p, k, _, rfl, rfl, hp, k0, k1, fun q H2 e2 h2 => ?_⟩
      refine kk _ _ (e1.trans e2) (.tup h2 ?_)
      have hx2 := dp_same e2 hx
      generalize k.toNat = n
      induction n with
      | zero => exact .nil
      | succ n ih => exact .cons hx2 ih
section
variable {P : Program} {w : World} {K : PySem.W.Frag} {mg : Str → Option Value} {base : Heap}
theorem ok_same (T : Txt K mg) : FnG P w K mg base CX0 1 T.f__law_same T.d__law_same ["_law_told", "_law_due"] (spSame K) := by
  have nd := sc__law_same.nd
  refine okG T.F__law_same sc__law_same (fun vs H Q E h => ?_) (fun cdv A outer s H vs Q E gu0 hr h => ?_)
  · obtain ⟨x, y, d, rfl, _⟩ := h
    rfl
  obtain ⟨x, y, d, rfl, hx, hy, hr', k⟩ := h
  have gu : (A.deeper (envOfC "_law_same" (defScope s__law_same) s.heap.objs.size T.f__law_same cdv)).guards = some [] := gu0
  have hu2 : (A.deeper (envOfC "_law_same" (defScope s__law_same) s.heap.objs.size T.f__law_same cdv)).units + 200 < cLine := by have := hr.un; omega
  refine ⟨_, (pss_one (ps_ret (pe_cmpR op_eq (pe_callB (call_reprR gu hu2) (by rfl) T.z_repr (by decide +kernel) (pa_cons (pv 0) pa_nil)) (pe_callB (call_reprR gu hu2) (by rfl) T.z_repr (by decide +kernel) (pa_cons (pv 1) pa_nil)) (nomark _)))), ?_⟩
  refine ⟨_, rfl, x, d, rfl, hx, hr', _, rfl, y, d, rfl, hy, hr', rfl, ?_⟩
  rw [decide_eq_true rfl]
  exact k
theorem ok_few (T : Txt K mg) : FnOk P w K mg base CX0 1 T.f__law_few T.d__law_few [] (spFew K) := by
  have nd := sc__law_few.nd
  refine T.F__law_few.ok sc__law_few (fun vs H Q E h => ?_) (fun cdv A outer s H vs Q E hr h => ?_)
  · rw [h.1]; rfl
  obtain ⟨rfl, k⟩ := h
  refine ⟨_, (pss_cons (ps_asg (pe_tup (pa_cons (pe_tup (pa_cons pe_str (pa_cons pe_int (pa_cons pe_int pa_nil)))) (pa_cons (pe_tup (pa_cons pe_str pa_nil)) (pa_cons (pe_tup (pa_cons pe_str pa_nil)) pa_nil)))) (pg_tup rfl (pgs_cons (pg_name (i := 0) nd rfl (Or.inl rfl)) (pgs_cons (pg_name (i := 1) nd rfl (Or.inl rfl)) (pgs_cons (pg_name (i := 2) nd rfl (Or.inl rfl)) pgs_nil)))))
      (pss_cons (ps_set (i := 3) nd rfl (Or.inl rfl) (pe_lst (pa_cons (pe_tup (pa_cons (pe_op op_catS (pe_op op_catS (pe_tup (pa_cons (pv 0) pa_nil)) (pe_op op_repS (pe_tup (pa_cons (pv 1) pa_nil)) pe_int)) (pe_tup (pa_cons (pv 2) pa_nil))) (pa_cons (pe_op op_catS (pe_op op_catS (pe_tup (pa_cons pe_int pa_nil)) (pe_op op_repS (pe_tup (pa_cons pe_int pa_nil)) pe_int)) (pe_tup (pa_cons pe_int pa_nil))) pa_nil))) pa_nil)))
      (pss_cons (ps_expr (pe_bm PySem.F.plainAttrs_list PySem.F.slot_list_append PySem.F.type_list_append mt_append (pv 3) (pa_cons (pe_tup (pa_cons (pe_op op_catS (pe_op op_catS (pe_tup (pa_cons (pe_tup (pa_cons pe_str (pa_cons pe_int (pa_cons pe_int pa_nil)))) pa_nil)) (pe_op op_repS (pe_tup (pa_cons (pv 1) pa_nil)) pe_int)) (pe_tup (pa_cons (pv 2) pa_nil))) (pa_cons (pe_op op_catS (pe_op op_catS (pe_tup (pa_cons pe_int (pa_cons pe_int pa_nil))) (pe_op op_repS (pe_tup (pa_cons pe_int pa_nil)) pe_int)) (pe_tup (pa_cons pe_int pa_nil))) pa_nil))) pa_nil)))
      (pss_cons (ps_expr (pe_bm PySem.F.plainAttrs_list PySem.F.slot_list_append PySem.F.type_list_append mt_append (pv 3) (pa_cons (pe_tup (pa_cons (pe_op op_catS (pe_op op_repS (pe_tup (pa_cons (pv 1) pa_nil)) pe_int) (pe_tup (pa_cons (pe_tup (pa_cons pe_str (pa_cons pe_int pa_nil))) pa_nil))) (pa_cons (pe_op op_catS (pe_op op_repS (pe_tup (pa_cons pe_int pa_nil)) pe_int) (pe_tup (pa_cons pe_int pa_nil))) pa_nil))) pa_nil)))
      (pss_cons (ps_expr (pe_bm PySem.F.plainAttrs_list PySem.F.slot_list_append PySem.F.type_list_append mt_append (pv 3) (pa_cons (pe_tup (pa_cons (pe_op op_catS (pe_op op_repS (pe_tup (pa_cons (pv 1) pa_nil)) pe_int) (pe_tup (pa_cons (pe_tup (pa_cons pe_str (pa_cons pe_int pa_nil))) pa_nil))) (pa_cons (pe_op op_catS (pe_op op_repS (pe_tup (pa_cons pe_int pa_nil)) pe_int) (pe_tup (pa_cons pe_int (pa_cons pe_int pa_nil)))) pa_nil))) pa_nil)))
      (pss_cons (ps_expr (pe_bm PySem.F.plainAttrs_list PySem.F.slot_list_append PySem.F.type_list_append mt_append (pv 3) (pa_cons (pe_tup (pa_cons (pe_tup (pa_cons (pe_tup (pa_cons pe_str (pa_cons pe_int pa_nil))) (pa_cons (pe_tup (pa_cons pe_str (pa_cons pe_int (pa_cons pe_int pa_nil)))) (pa_cons (pe_tup (pa_cons pe_str (pa_cons pe_int pa_nil))) (pa_cons (pv 2) pa_nil))))) (pa_cons (pe_tup (pa_cons pe_int (pa_cons pe_int (pa_cons pe_int (pa_cons pe_int (pa_cons pe_int pa_nil)))))) pa_nil))) pa_nil)))
      (pss_cons (ps_set (i := 4) nd rfl (Or.inl rfl) (pe_tup (pa_cons (pe_tup (pa_cons pe_str (pa_cons pe_int (pa_cons pe_int pa_nil)))) (pa_cons (pe_tup (pa_cons pe_str (pa_cons pe_int (pa_cons pe_int pa_nil)))) (pa_cons (pe_tup (pa_cons pe_str (pa_cons pe_int (pa_cons pe_int (pa_cons pe_int pa_nil))))) (pa_cons (pe_tup (pa_cons pe_str (pa_cons pe_int (pa_cons pe_int (pa_cons pe_int pa_nil))))) (pa_cons (pe_tup (pa_cons pe_str (pa_cons pe_int (pa_cons pe_int (pa_cons pe_int pa_nil))))) pa_nil)))))))
      (pss_cons (ps_set (i := 5) nd rfl (Or.inl rfl) (pe_tup (pa_cons (pe_tup (pa_cons pe_str (pa_cons pe_int (pa_cons pe_int (pa_cons pe_int (pa_cons pe_int pa_nil)))))) (pa_cons (pe_tup (pa_cons pe_str (pa_cons pe_int (pa_cons pe_int (pa_cons pe_int (pa_cons pe_int pa_nil)))))) (pa_cons (pe_tup (pa_cons pe_str (pa_cons pe_int (pa_cons pe_int (pa_cons pe_int pa_nil))))) (pa_cons (pe_tup (pa_cons pe_str (pa_cons pe_int (pa_cons pe_int (pa_cons pe_int pa_nil))))) (pa_cons (pv 2) pa_nil)))))))
      (pss_cons (ps_set (i := 6) nd rfl (Or.inl rfl) (pe_tup (pa_cons pe_int (pa_cons pe_int (pa_cons pe_int (pa_cons pe_int (pa_cons pe_int (pa_cons pe_int (pa_cons pe_int (pa_cons pe_int (pa_cons pe_int (pa_cons pe_int pa_nil))))))))))))
      (pss_cons (ps_expr (pe_bm PySem.F.plainAttrs_list PySem.F.slot_list_append PySem.F.type_list_append mt_append (pv 3) (pa_cons (pe_tup (pa_cons (pe_op op_catS (pv 4) (pv 5)) (pa_cons (pv 6) pa_nil))) pa_nil)))
      (pss_one (ps_ret (pv 3))))))))))))), ?_⟩
  refine goD (ev_tup (K := K) (ea_cons (ev_tup (ea_cons ev_str (ea_cons ev_int (ea_cons ev_int ea_nil))) (by simp)) (ea_cons (ev_tup (ea_cons ev_str ea_nil) (by simp)) (ea_cons (ev_tup (ea_cons ev_str ea_nil) (by simp)) ea_nil))) (by simp)) fun x H1 e1 hx => ?_
  obtain ⟨a0, xs0, rfl, ha0, hx0⟩ := tup_of hx
  obtain ⟨v0, v1, v2, rfl, h0, h1, h2⟩ : ∃ v0 v1 v2, xs0 = [v0, v1, v2] ∧ Dp K H1 v0 (.tuple [.str "nought", .int 15, .int 7]) ∧ Dp K H1 v1 (.tuple [.str "beat"]) ∧ Dp K H1 v2 (.tuple [.str "back"]) := by
    cases hx0 with
    | cons a r => cases r with
      | cons b r => cases r with
        | cons c r => cases r; exact ⟨_, _, _, rfl, a, b, c⟩
  refine ⟨a0, _, rfl, ha0, rfl, _, _, rfl, _, _, rfl, _, _, rfl, rfl, ?_⟩
  -- the first pair
  refine goL1 (K := K) (d := fw0) (ev_tup (ea_cons (ev_cat (ev_cat (ev_tup (ea_cons (ev_var rfl h0) ea_nil) (by simp)) (ev_rep (ev_tup (ea_cons (ev_var rfl h1) ea_nil) (by simp)) (by decide) (by decide)) (by simp) (by simp)) (ev_tup (ea_cons (ev_var rfl h2) ea_nil) (by simp)) (by simp) (by simp)) (ea_cons (ev_cat (ev_cat (ev_tup (ea_cons ev_int ea_nil) (by simp)) (ev_rep (ev_tup (ea_cons ev_int ea_nil) (by simp)) (by decide) (by decide)) (by simp) (by simp)) (ev_tup (ea_cons ev_int ea_nil) (by simp)) (by simp) (by simp)) ea_nil)) (by simp)) fun y0 H2 p e2 hp hy0 => ?_
  have hl : (upd H2 p (.lst [y0])) p = some (.lst [y0]) := upd_same
  have b1 : Dp K (del (upd H2 p (.lst [y0])) p) v1 (.tuple [.str "beat"]) := by rw [del_upd]; exact dp_same (same_off e2 (none_of e2 hp)) h1
  have b2 : Dp K (del (upd H2 p (.lst [y0])) p) v2 (.tuple [.str "back"]) := by rw [del_upd]; exact dp_same (same_off e2 (none_of e2 hp)) h2
  have acc : DpAll K (del (upd H2 p (.lst [y0])) p) [y0] [fw0] := by rw [del_upd]; exact .cons (dp_same (same_off (Same.refl H2) hp) hy0) .nil
  have s0 : Same H (upd H2 p (.lst [y0])) := (e1.trans e2).trans (same_new hp _)
  have hpH : H p = none := none_of (e1.trans e2) hp
  generalize upd H2 p (.lst [y0]) = G0 at hl b1 b2 acc s0 ⊢
  refine goA (K := K) (d := fw1) rfl hl (by simp) (ee_tup hl (eb_cons (ee_cat hl (ee_cat hl (ee_tup hl (eb_cons (ee_tup hl (eb_cons ee_str (eb_cons ee_int (eb_cons ee_int eb_nil))) (by simp)) eb_nil) (by simp)) (ee_rep hl (ee_tup hl (eb_cons (ee_var rfl b1) eb_nil) (by simp)) (by decide) (by decide)) (by simp) (by simp)) (ee_tup hl (eb_cons (ee_var rfl b2) eb_nil) (by simp)) (by simp) (by simp)) (eb_cons (ee_cat hl (ee_cat hl (ee_tup hl (eb_cons ee_int (eb_cons ee_int eb_nil)) (by simp)) (ee_rep hl (ee_tup hl (eb_cons ee_int eb_nil) (by simp)) (by decide) (by decide)) (by simp) (by simp)) (ee_tup hl (eb_cons ee_int eb_nil) (by simp)) (by simp) (by simp)) eb_nil)) (by simp)) fun y1 Q1 g1 h1' => ?_
  change tSeq _ _ _ _ (upd Q1 p (.lst [y0, y1]))
  have hl' : (upd Q1 p (.lst [y0, y1])) p = some (.lst [y0, y1]) := upd_same
  have acc' : DpAll K (del (upd Q1 p (.lst [y0, y1])) p) [y0, y1] [fw0, fw1] := by rw [del_upd]; exact dpAll_app (dpAll_same (same_del p g1) acc) h1'
  have s0' : Same H (upd Q1 p (.lst [y0, y1])) := same_mut (s0.trans g1) hpH
  have b1' := (by rw [del_upd]; exact dp_same (same_del p g1) b1 : Dp K (del (upd Q1 p (.lst [y0, y1])) p) _ _)
  have b2' := (by rw [del_upd]; exact dp_same (same_del p g1) b2 : Dp K (del (upd Q1 p (.lst [y0, y1])) p) _ _)
  clear hl acc s0 b1 b2
  have hl := hl'
  clear hl'
  have acc := acc'
  clear acc'
  have s0 := s0'
  clear s0'
  have b1 := b1'
  clear b1'
  have b2 := b2'
  clear b2'
  generalize upd Q1 p (.lst [y0, y1]) = G1 at hl acc s0 b1 b2 ⊢
  refine goA (K := K) (d := fw2) rfl hl (by simp) (ee_tup hl (eb_cons (ee_cat hl (ee_rep hl (ee_tup hl (eb_cons (ee_var rfl b1) eb_nil) (by simp)) (by decide) (by decide)) (ee_tup hl (eb_cons (ee_tup hl (eb_cons ee_str (eb_cons ee_int eb_nil)) (by simp)) eb_nil) (by simp)) (by simp) (by simp)) (eb_cons (ee_cat hl (ee_rep hl (ee_tup hl (eb_cons ee_int eb_nil) (by simp)) (by decide) (by decide)) (ee_tup hl (eb_cons ee_int eb_nil) (by simp)) (by simp) (by simp)) eb_nil)) (by simp)) fun y2 Q2 g2 h2' => ?_
  change tSeq _ _ _ _ (upd Q2 p (.lst [y0, y1, y2]))
  have hl' : (upd Q2 p (.lst [y0, y1, y2])) p = some (.lst [y0, y1, y2]) := upd_same
  have acc' : DpAll K (del (upd Q2 p (.lst [y0, y1, y2])) p) [y0, y1, y2] [fw0, fw1, fw2] := by rw [del_upd]; exact dpAll_app (dpAll_same (same_del p g2) acc) h2'
  have s0' : Same H (upd Q2 p (.lst [y0, y1, y2])) := same_mut (s0.trans g2) hpH
  have b1' := (by rw [del_upd]; exact dp_same (same_del p g2) b1 : Dp K (del (upd Q2 p (.lst [y0, y1, y2])) p) _ _)
  have b2' := (by rw [del_upd]; exact dp_same (same_del p g2) b2 : Dp K (del (upd Q2 p (.lst [y0, y1, y2])) p) _ _)
  clear hl acc s0 b1 b2
  have hl := hl'
  clear hl'
  have acc := acc'
  clear acc'
  have s0 := s0'
  clear s0'
  have b1 := b1'
  clear b1'
  have b2 := b2'
  clear b2'
  generalize upd Q2 p (.lst [y0, y1, y2]) = G2 at hl acc s0 b1 b2 ⊢
  refine goA (K := K) (d := fw3) rfl hl (by simp) (ee_tup hl (eb_cons (ee_cat hl (ee_rep hl (ee_tup hl (eb_cons (ee_var rfl b1) eb_nil) (by simp)) (by decide) (by decide)) (ee_tup hl (eb_cons (ee_tup hl (eb_cons ee_str (eb_cons ee_int eb_nil)) (by simp)) eb_nil) (by simp)) (by simp) (by simp)) (eb_cons (ee_cat hl (ee_rep hl (ee_tup hl (eb_cons ee_int eb_nil) (by simp)) (by decide) (by decide)) (ee_tup hl (eb_cons ee_int (eb_cons ee_int eb_nil)) (by simp)) (by simp) (by simp)) eb_nil)) (by simp)) fun y3 Q3 g3 h3' => ?_
  change tSeq _ _ _ _ (upd Q3 p (.lst [y0, y1, y2, y3]))
  have hl' : (upd Q3 p (.lst [y0, y1, y2, y3])) p = some (.lst [y0, y1, y2, y3]) := upd_same
  have acc' : DpAll K (del (upd Q3 p (.lst [y0, y1, y2, y3])) p) [y0, y1, y2, y3] [fw0, fw1, fw2, fw3] := by rw [del_upd]; exact dpAll_app (dpAll_same (same_del p g3) acc) h3'
  have s0' : Same H (upd Q3 p (.lst [y0, y1, y2, y3])) := same_mut (s0.trans g3) hpH
  have b1' := (by rw [del_upd]; exact dp_same (same_del p g3) b1 : Dp K (del (upd Q3 p (.lst [y0, y1, y2, y3])) p) _ _)
  have b2' := (by rw [del_upd]; exact dp_same (same_del p g3) b2 : Dp K (del (upd Q3 p (.lst [y0, y1, y2, y3])) p) _ _)
  clear hl acc s0 b1 b2
  have hl := hl'
  clear hl'
  have acc := acc'
  clear acc'
  have s0 := s0'
  clear s0'
  have b1 := b1'
  clear b1'
  have b2 := b2'
  clear b2'
  generalize upd Q3 p (.lst [y0, y1, y2, y3]) = G3 at hl acc s0 b1 b2 ⊢
  refine goA (K := K) (d := fw4) rfl hl (by simp) (ee_tup hl (eb_cons (ee_tup hl (eb_cons (ee_tup hl (eb_cons ee_str (eb_cons ee_int eb_nil)) (by simp)) (eb_cons (ee_tup hl (eb_cons ee_str (eb_cons ee_int (eb_cons ee_int eb_nil))) (by simp)) (eb_cons (ee_tup hl (eb_cons ee_str (eb_cons ee_int eb_nil)) (by simp)) (eb_cons (ee_var rfl b2) eb_nil)))) (by simp)) (eb_cons (ee_tup hl (eb_cons ee_int (eb_cons ee_int (eb_cons ee_int (eb_cons ee_int (eb_cons ee_int eb_nil))))) (by simp)) eb_nil)) (by simp)) fun y4 Q4 g4 h4' => ?_
  change tSeq _ _ _ _ (upd Q4 p (.lst [y0, y1, y2, y3, y4]))
  have hl' : (upd Q4 p (.lst [y0, y1, y2, y3, y4])) p = some (.lst [y0, y1, y2, y3, y4]) := upd_same
  have acc' : DpAll K (del (upd Q4 p (.lst [y0, y1, y2, y3, y4])) p) [y0, y1, y2, y3, y4] [fw0, fw1, fw2, fw3, fw4] := by rw [del_upd]; exact dpAll_app (dpAll_same (same_del p g4) acc) h4'
  have s0' : Same H (upd Q4 p (.lst [y0, y1, y2, y3, y4])) := same_mut (s0.trans g4) hpH
  have b1' := (by rw [del_upd]; exact dp_same (same_del p g4) b1 : Dp K (del (upd Q4 p (.lst [y0, y1, y2, y3, y4])) p) _ _)
  have b2' := (by rw [del_upd]; exact dp_same (same_del p g4) b2 : Dp K (del (upd Q4 p (.lst [y0, y1, y2, y3, y4])) p) _ _)
  clear hl acc s0 b1 b2
  have hl := hl'
  clear hl'
  have acc := acc'
  clear acc'
  have s0 := s0'
  clear s0'
  have b1 := b1'
  clear b1'
  have b2 := b2'
  clear b2'
  generalize upd Q4 p (.lst [y0, y1, y2, y3, y4]) = G4 at hl acc s0 b1 b2 ⊢
  refine goE (K := K) (l := p) (d := .tuple [.tuple [.str "move", .int 1, .int 15], .tuple [.str "swap", .int 15, .int 1], .tuple [.str "add", .int 1, .int 2, .int 3], .tuple [.str "sub", .int 4, .int 5, .int 6], .tuple [.str "mul", .int 7, .int 8, .int 9]]) (ee_tup hl (eb_cons (ee_tup hl (eb_cons ee_str (eb_cons ee_int (eb_cons ee_int eb_nil))) (by simp)) (eb_cons (ee_tup hl (eb_cons ee_str (eb_cons ee_int (eb_cons ee_int eb_nil))) (by simp)) (eb_cons (ee_tup hl (eb_cons ee_str (eb_cons ee_int (eb_cons ee_int (eb_cons ee_int eb_nil)))) (by simp)) (eb_cons (ee_tup hl (eb_cons ee_str (eb_cons ee_int (eb_cons ee_int (eb_cons ee_int eb_nil)))) (by simp)) (eb_cons (ee_tup hl (eb_cons ee_str (eb_cons ee_int (eb_cons ee_int (eb_cons ee_int eb_nil)))) (by simp)) eb_nil))))) (by simp)) fun z4 G5 g5 hz4 => ?_
  have acc5 := dpAll_same (same_del p g5) acc
  have hl5 := g5 _ _ hl
  have b25 := dp_same (same_del p g5) b2
  have s5 := s0.trans g5
  clear acc hl b2 b1 s0
  have hl := hl5
  refine goE (K := K) (l := p) (d := .tuple [.tuple [.str "div", .int 10, .int 11, .int 12, .int 0], .tuple [.str "rem", .int 13, .int 14, .int 15, .int 1], .tuple [.str "less", .int 0, .int 15, .int 0], .tuple [.str "same", .int 15, .int 0, .int 15], .tuple [.str "back"]]) (ee_tup hl (eb_cons (ee_tup hl (eb_cons ee_str (eb_cons ee_int (eb_cons ee_int (eb_cons ee_int (eb_cons ee_int eb_nil))))) (by simp)) (eb_cons (ee_tup hl (eb_cons ee_str (eb_cons ee_int (eb_cons ee_int (eb_cons ee_int (eb_cons ee_int eb_nil))))) (by simp)) (eb_cons (ee_tup hl (eb_cons ee_str (eb_cons ee_int (eb_cons ee_int (eb_cons ee_int eb_nil)))) (by simp)) (eb_cons (ee_tup hl (eb_cons ee_str (eb_cons ee_int (eb_cons ee_int (eb_cons ee_int eb_nil)))) (by simp)) (eb_cons (ee_var rfl b25) eb_nil))))) (by simp)) fun z5 G6 g6 hz5 => ?_
  have acc6 := dpAll_same (same_del p g6) acc5
  have hl6 := g6 _ _ hl
  have hz46 := dp_same (same_del p g6) hz4
  have s6 := s5.trans g6
  clear acc5 hl hl5 b25 s5
  have hl := hl6
  refine goE (K := K) (l := p) (d := .tuple [.int 8688, .int 16144, .int 16675, .int 21590, .int 26505, .int 31420, .int 36335, .int 37104, .int 44815, .int 256]) (ee_tup hl (eb_cons ee_int (eb_cons ee_int (eb_cons ee_int (eb_cons ee_int (eb_cons ee_int (eb_cons ee_int (eb_cons ee_int (eb_cons ee_int (eb_cons ee_int (eb_cons ee_int eb_nil)))))))))) (by simp)) fun z6 G7 g7 hz6 => ?_
  have acc7 := dpAll_same (same_del p g7) acc6
  have hl7 := g7 _ _ hl
  have hz47 := dp_same (same_del p g7) hz46
  have hz57 := dp_same (same_del p g7) hz5
  have s7 := s6.trans g7
  clear acc6 hl hl6 s6
  have hl := hl7
  refine goA (K := K) (d := fw5) rfl hl (by simp) (ee_tup hl (eb_cons (ee_cat hl (ee_var rfl hz47) (ee_var rfl hz57) (by simp) (by simp)) (eb_cons (ee_var rfl hz6) eb_nil)) (by simp)) fun y5 Q5 g8 h8 => ?_
  refine ⟨_, rfl, k p [y0, y1, y2, y3, y4, y5] _ (same_mut (s7.trans g8) hpH) hpH upd_same ?_⟩
  rw [del_upd, ← few_eq]
  exact dpAll_app (dpAll_same (same_del p g8) acc7) h8
end
end Lk

set_option Elab.async false
set_option linter.all false
set_option maxRecDepth 100000
set_option maxHeartbeats 4000000
namespace Lk
open PySem PySem.Spec PyProof.Rows L2
def regB (b : Int) : Bool := decide (0 ≤ b) && decide (b ≤ 15)
def smlB (b : Int) : Bool := decide (0 ≤ b) && decide (b < 1000000)
theorem reg_ofB {b : Int} (h : regB b = true) : reg b := ⟨of_decide_eq_true (Bool.and_eq_true_iff.mp h).1, of_decide_eq_true (Bool.and_eq_true_iff.mp h).2⟩
theorem sml_ofB {b : Int} (h : smlB b = true) : sml b := ⟨of_decide_eq_true (Bool.and_eq_true_iff.mp h).1, of_decide_eq_true (Bool.and_eq_true_iff.mp h).2⟩
def Ro.fitB (n : Nat) (ts : List Str) : Ro → Bool
  | .plain _ => true
  | .cell _ c => regB c
  | .num b n => regB b && smlB n
  | .two _ b c => regB b && regB c
  | .op k b c d pl => regB b && (regB c && (regB d && ((pl.isSome == (k == 3 || k == 4)) && (match pl with | none => true | some n => smlB n))))
  | .call t n => decide (t ∈ ts) && smlB n
  | .jump t => decide (t ≤ n)
  | .nought b t => regB b && decide (t ≤ n)
theorem fit_ofB {r : Ro} {n : Nat} {ts : List Str} (h : r.fitB n ts = true) : r.fit n ts := by
  cases r with
  | plain k => trivial
  | cell k c => exact reg_ofB h
  | num b m => exact ⟨reg_ofB (Bool.and_eq_true_iff.mp h).1, sml_ofB (Bool.and_eq_true_iff.mp h).2⟩
  | two k b c => exact ⟨reg_ofB (Bool.and_eq_true_iff.mp h).1, reg_ofB (Bool.and_eq_true_iff.mp h).2⟩
  | op k b c d pl =>
    obtain ⟨h1, h⟩ := Bool.and_eq_true_iff.mp h
    obtain ⟨h2, h⟩ := Bool.and_eq_true_iff.mp h
    obtain ⟨h3, h⟩ := Bool.and_eq_true_iff.mp h
    obtain ⟨h4, h5⟩ := Bool.and_eq_true_iff.mp h
    refine ⟨reg_ofB h1, reg_ofB h2, reg_ofB h3, ?_, fun m hm => ?_⟩
    · rw [eq_of_beq h4, Bool.or_eq_true, beq_iff_eq, beq_iff_eq]
    · subst hm; exact sml_ofB h5
  | call t m => exact ⟨of_decide_eq_true (Bool.and_eq_true_iff.mp h).1, sml_ofB (Bool.and_eq_true_iff.mp h).2⟩
  | jump t => exact (of_decide_eq_true h : t ≤ n)
  | nought b t => exact ⟨reg_ofB (Bool.and_eq_true_iff.mp h).1, of_decide_eq_true (Bool.and_eq_true_iff.mp h).2⟩
def fnB (ts : List Str) (p : Str × List Ro) : Bool := decide (p.2.length ≤ 2000) && (p.2.all (Ro.fitB p.2.length ts) && decide ((reprText p.1).length ≤ 20))
theorem wf_ofB {fs : List (Str × List Ro)} (h1 : (fs.map (·.1)).Nodup) (h2 : ("main" : Str) ∈ fs.map (·.1)) (h3 : fs.length ≤ 10) (h : ∀ p ∈ fs, fnB (fs.map (·.1)) p = true) : WF fs := by
  refine ⟨h1, h2, h3, fun p m => ?_, fun p m r mr => ?_, fun p m => ?_⟩
  · exact of_decide_eq_true (Bool.and_eq_true_iff.mp (h p m)).1
  · exact fit_ofB (List.all_eq_true.mp (Bool.and_eq_true_iff.mp (Bool.and_eq_true_iff.mp (h p m)).2).1 r mr)
  · exact of_decide_eq_true (Bool.and_eq_true_iff.mp (Bool.and_eq_true_iff.mp (h p m)).2).2
def placesW (rs : List Ro) : List PyData := if rs.length = 10 ∧ ((rs.getD 5 (.plain true)).verb == "div") = true then [.tuple [.int 5, .str "main", .int 0], .tuple [.int 6, .str "main", .int 1]] else []
def oneF (rs : List Ro) : List (Str × List Ro) := [("main", rs)]
theorem few_wf : ∀ p ∈ fewL, WF (oneF p.1) := by
  have h : ∀ p ∈ fewL, fnB ["main"] ("main", p.1) = true := by decide +kernel
  intro p m
  refine wf_ofB (by show [("main" : Str)].Nodup; decide +kernel) List.mem_cons_self (by show 1 ≤ 10; decide) fun q mq => ?_
  rw [List.mem_singleton.mp mq]
  exact h p m
theorem few_words : ∀ p ∈ fewL, wordsE (allE (oneF p.1)) = p.2 ∧ mainAt (oneF p.1) = 0 := by decide +kernel
theorem few_places : ∀ p ∈ fewL, placesAll (oneF p.1) 1 = placesW p.1 := by
  intro p m
  unfold fewL at m
  rcases List.mem_cons.mp m with rfl | m
  · kernel_rfl
  rcases List.mem_cons.mp m with rfl | m
  · kernel_rfl
  rcases List.mem_cons.mp m with rfl | m
  · kernel_rfl
  rcases List.mem_cons.mp m with rfl | m
  · kernel_rfl
  rcases List.mem_cons.mp m with rfl | m
  · kernel_rfl
  rw [List.mem_singleton.mp m]
  kernel_rfl
end Lk

set_option Elab.async false
set_option linter.all false
set_option maxRecDepth 100000
set_option pp.maxSteps 1500
set_option maxHeartbeats 4000000
namespace Lk
open PySem PySem.Spec PyProof.Rows L2
theorem ints_of {K : PySem.W.Frag} {H : Hp} : ∀ {xs : List V} {ws : List Int}, DpAll K H xs (ws.map .int) → xs = iV ws
  | _, [], .nil => rfl
  | _, w :: ws, .cons a r => by cases a; rw [ints_of r]; rfl
def spTrue : Sp := fun vs H Q _ => vs = [] ∧ ∀ H', Same H H' → Q (.bl true) H'
section
variable {P : Program} {w : World} {K : PySem.W.Frag} {mg : Str → Option Value} {base : Heap}
theorem ok_few_right (T : Txt K mg) : FnG P w K mg base CX0 7 T.f__law_are_few_right T.d__law_are_few_right [] spTrue := by
  have nd := sc__law_are_few_right.nd
  refine okG T.F__law_are_few_right sc__law_are_few_right (fun vs H Q E h => ?_) (fun cdv A outer s H vs Q E gu0 hr h => ?_)
  · rw [h.1]; rfl
  obtain ⟨rfl, k⟩ := h
  have gu : (A.deeper (envOfC "_law_are_few_right" (defScope s__law_are_few_right) s.heap.objs.size T.f__law_are_few_right cdv)).guards = some [] := gu0
  have G__law_few : FnOk P w K mg base CX0 1 _ _ _ (spFew K) := ok_few T
  have hr__law_few : Room 1 _ := hr.mono (by omega)
  have G_load : FnOk P w K mg base CX0 6 _ _ _ (spLoad K) := ok_load T
  have hr_load : Room 6 _ := hr
  have G_rows_in : FnOk P w K mg base CX0 3 _ _ _ (spRowsIn K) := ok_rows_in T
  have hr_rows_in : Room 3 _ := hr.mono (by omega)
  have G__law_loaded : FnOk P w K mg base CX0 4 _ _ _ (spLoaded K) := ok_loaded T
  have hr__law_loaded : Room 4 _ := hr.mono (by omega)
  have G__law_same : FnG P w K mg base CX0 1 _ _ _ (spSame K) := ok_same T
  have hr__law_same : Room 1 _ := hr.mono (by omega)
  refine ⟨_, (pss_cons (ps_for PassesOwn.never rfl (pi_list (pe_call0 G__law_few hr__law_few rfl T.m__law_few T.k__law_few T.b__law_few .nil pass0)) (pg_tup rfl (pgs_cons (pg_name (i := 0) nd rfl (Or.inl rfl)) (pgs_cons (pg_name (i := 1) nd rfl (Or.inl rfl)) pgs_nil)))
      (pss_cons (ps_set (i := 2) nd rfl (Or.inl rfl) (pe_tup (pa_cons pe_int (pa_cons pe_int (pa_cons pe_int (pa_cons (pe_tup (pa_cons (pe_tup (pa_cons pe_str (pa_cons pe_int (pa_cons (pv 0) pa_nil)))) pa_nil)) pa_nil))))))
      (pss_cons (ps_set (i := 3) nd rfl (Or.inl rfl) (pe_call G_load hr_load rfl T.m_load T.k_load T.b_load .nil pass0 (pa_cons (pv 2) pa_nil)))
      (pss_cons (ps_set (i := 4) nd rfl (Or.inl rfl) (pe_ifExp (PW.pt (pw_and (pt_cmpR op_eq (pe_callB call_len_seq (by rfl) T.z_len PySem.boot_len (pa_cons (pv 0) pa_nil)) pe_int (nomark _)) (pw_and1 (pt_cmpR op_eq (pe_ix ix_tup (pe_ix ix_tup (pv 0) pe_int (fun _ _ => rfl)) pe_int (fun _ _ => rfl)) pe_str (nomark _))))) (pe_tup (pa_cons (pe_tup (pa_cons pe_int (pa_cons pe_str (pa_cons pe_int pa_nil)))) (pa_cons (pe_tup (pa_cons pe_int (pa_cons pe_str (pa_cons pe_int pa_nil)))) pa_nil))) (pe_tup pa_nil)))
      (pss_cons (ps_if (pt_not (pt_val (by exact (pe_callG G__law_same gu hr__law_same rfl T.m__law_same T.k__law_same T.b__law_same .nil pass0 (pa_cons (pv 3) (pa_cons (pe_tup (pa_cons (pv 1) (pa_cons pe_int (pa_cons pe_int (pa_cons pe_int (pa_cons pe_int (pa_cons (pv 4) pa_nil))))))) pa_nil)))))) (pss_one (ps_ret pe_bl)) pss_nil)
      (pss_one (ps_if (pt_not (pt_val (by exact (pe_callG G__law_same gu hr__law_same rfl T.m__law_same T.k__law_same T.b__law_same .nil pass0 (pa_cons (pe_call G_rows_in hr_rows_in rfl T.m_rows_in T.k_rows_in T.b_rows_in .nil pass0 (pa_cons (pv 1) pa_nil)) (pa_cons (pe_ix ix_tup (pe_call G__law_loaded hr__law_loaded rfl T.m__law_loaded T.k__law_loaded T.b__law_loaded .nil pass0 (pa_cons (pv 2) pa_nil)) pe_int (fun _ _ => rfl)) pa_nil)))))) (pss_one (ps_ret pe_bl)) pss_nil)))))))
      (pss_one (ps_ret pe_bl))), ?_⟩
  refine ⟨rfl, fun p xs H1 e1 hp ep hx => ?_⟩
  refine ⟨p, rfl, ⟨_, SqL.of ep⟩, ?_⟩
  refine for_list (K := K) (a := p) (xs := xs) (fun i σ H' => ∃ (o0 o1 o2 o3 o4 : Option V), σ = [o0, o1, o2, o3, o4] ∧ Same H1 H') ?_ ?_ ?_ ?_
  · exact ⟨none, none, none, none, none, rfl, Same.refl _⟩
  · rintro i σ H' _ ⟨_, _, _, _, _, _, e⟩
    exact SqL.of (e _ _ ep)
  · rintro i x σ H2 hix ⟨o0, o1, o2, o3, o4, rfl, e2⟩
    obtain ⟨d, md, _, hd⟩ := dp_get hx hix
    obtain ⟨⟨rs, ws⟩, mp, rfl⟩ := List.mem_map.mp md
    have hd2 : Dp K H2 x (.tuple [rowsD rs, .tuple (ws.map .int)]) := dp_same ((del_le H1 p).trans e2) hd
    obtain ⟨xa, xxs, rfl, hxa, hxx⟩ := tup_of hd2
    obtain ⟨v0, v1, rfl, h0, h1⟩ : ∃ v0 v1, xxs = [v0, v1] ∧ Dp K H2 v0 (rowsD rs) ∧ Dp K H2 v1 (.tuple (ws.map .int)) := by
      cases hxx with
      | cons a r => cases r with
        | cons b r => cases r; exact ⟨_, _, rfl, a, b⟩
    have wf := few_wf _ mp
    obtain ⟨hw, hm⟩ := few_words _ mp
    have hpl := few_places _ mp
    have hw : wordsE (allE (oneF rs)) = ws := hw
    have hm : mainAt (oneF rs) = 0 := hm
    have hpl : placesAll (oneF rs) 1 = placesW rs := hpl
    have s16 : sml 16 := by unfold sml; omega
    have s0 : sml 0 := by unfold sml; omega
    refine ⟨xa, _, rfl, hxa, rfl, _, _, rfl, _, _, rfl, rfl, ?_⟩
    dsimp only
    refine goD (K := K) (d := .tuple [.int 16, .int 0, .int 0, .tuple [.tuple [.str "main", .int 0, rowsD rs]]]) (ev_tup (ea_cons ev_int (ea_cons ev_int (ea_cons ev_int (ea_cons (ev_tup (ea_cons (ev_tup (ea_cons ev_str (ea_cons ev_int (ea_cons (ev_var rfl h0) ea_nil))) (by simp)) ea_nil) (by simp)) ea_nil)))) (by simp)) fun y H3 e3 hy => ?_
    have hlk : Dp K H3 y (linkedD 16 0 0 (oneF rs)) := hy
    refine ⟨_, rfl, y, 16, 0, 0, oneF rs, rfl, hlk, wf, fun z H4 e4 hz => ?_⟩
    have himg := image_rp wf s16 s0 s0
    have eimg : imageD 16 0 0 (oneF rs) = .tuple [.tuple (ws.map .int), .int 0, .int 16, .int 0, .int 0, .tuple (placesW rs)] := by
      unfold imageD
      rw [hw, hm, show (oneF rs).length = 1 from rfl, hpl]
    obtain ⟨ra, rxs, rfl, hra, hrx⟩ := tup_of (dp_same (e3.trans e4) h0)
    have rl : rxs.length = rs.length := by rw [dp_len hrx, List.length_map]
    have e24 := e3.trans e4
    -- behind the places
    dsimp only
    refine seq_midg (t1 := tAsg _ _) (fun σ' H5 => ∃ v4, σ' = [some (.ref ra), some v1, some y, some z, some v4] ∧ Same H4 H5 ∧ Dp K H5 v4 (.tuple (placesW rs))) ?_ ?_
    · rintro σ' H5 ⟨v4, rfl, e5, hv4⟩
      have hz5 := dp_same e5 hz
      have h15 := dp_same (e24.trans e5) h1
      refine ⟨_, rfl, _, rfl, _, rfl, (by show 6 ≤ sizeLine; decide), fun pt hpt => ?_⟩
      have s6 := same_new hpt (.tup [v1, .int 0, .int 16, .int 0, .int 0, v4])
      have dpt : Dp K (upd H5 pt (.tup [v1, .int 0, .int 16, .int 0, .int 0, v4])) (.ref pt) (imageD 16 0 0 (oneF rs)) := by
        rw [eimg]
        exact .tup (SqT.of upd_same) (.cons (dp_same s6 h15) (.cons (.int _) (.cons (.int _) (.cons (.int _) (.cons (.int _) (.cons (dp_same s6 hv4) .nil))))))
      have hz6 := dp_same s6 hz5
      generalize upd H5 pt (.tup [v1, .int 0, .int 16, .int 0, .int 0, v4]) = H6 at s6 dpt hz6 ⊢
      refine ⟨z, .ref pt, imageD 16 0 0 (oneF rs), rfl, hz6, dpt, ⟨rfl, himg.1, Nat.le_trans himg.2.1 (by decide), Nat.le_trans himg.2.2 (by decide)⟩, _, rfl, ?_⟩
      refine iteF ?_
      have h16 := dp_same s6 h15
      obtain ⟨wa, wxs, rfl, hwa, hwx⟩ := tup_of h16
      have hwi : wxs = iV ws := ints_of hwx
      have e26 := e24.trans (e5.trans s6)
      refine ⟨_, rfl, wa, allE (oneF rs), rfl, (by rw [hw, ← hwi]; exact hwa), chain_all _ _ (Nat.le_refl _), all_ok wf, ?_, fun y2 H7 e7 hy2 => ?_⟩
      · have := allTo_le wf 1 (Nat.le_refl _)
        exact Nat.le_trans this (by decide)
      refine ⟨_, rfl, y, 16, 0, 0, oneF rs, rfl, dp_same (e4.trans (e5.trans (s6.trans e7))) hlk, wf, fun y3 H8 e8 hy3 => ?_⟩
      obtain ⟨ta, txs, rfl, hta, htx⟩ := tup_of hy3
      obtain ⟨w0, w1, rfl, _, hw1⟩ : ∃ w0 w1, txs = [w0, w1] ∧ Dp K H8 w0 (imageD 16 0 0 (oneF rs)) ∧ Dp K H8 w1 (backD (allE (oneF rs))) := by
        cases htx with
        | cons a r => cases r with
          | cons b r => cases r; exact ⟨_, _, rfl, a, b⟩
      have hbk := back_rp wf
      refine ⟨ta, _, _, _, rfl, rfl, hta, (by rfl : _ = some w1), ?_⟩
      refine ⟨y2, w1, backD (allE (oneF rs)), rfl, dp_same e8 hy2, hw1, ⟨rfl, hbk.1, Nat.le_trans hbk.2.1 (by decide), Nat.le_trans hbk.2.2 (by decide)⟩, _, rfl, ?_⟩
      refine iteF ?_
      exact ⟨_, _, _, _, _, rfl, e2.trans (e26.trans (e7.trans e8))⟩
    · intro nx hnx
      refine ⟨_, rfl, ra, _, rfl, .inr hra, rfl, _, rfl, ?_⟩
      rw [int_dec, rl]
      have els : ¬ (rs.length = 10 ∧ ((rs.getD 5 (.plain true)).verb == "div") = true) → ∀ pe, H4 pe = none → nx [some (V.ref ra), some v1, some y, some z, some (.ref pe)] (upd H4 pe (.tup [])) := fun c pe hpe => by
        refine hnx _ _ ⟨.ref pe, rfl, same_new hpe _, ?_⟩
        unfold placesW
        rw [if_neg c]
        exact .tup (SqT.of upd_same) .nil
      by_cases c1 : rs.length = 10
      · refine ifT (decide_eq_true (show ((rs.length : Nat) : Int) = 10 by omega)) ?_
        obtain ⟨v5, hv5, hd5⟩ := dp_nth hrx (i := 5) (by rw [List.length_map]; omega)
        rw [List.getElem_map] at hd5
        obtain ⟨qa, qs, rfl, hqa, hqx, hq0⟩ := row_head hd5
        have g5 : rs.getD 5 (.plain true) = rs[5]'(by omega) := by rw [List.getD_eq_getElem?_getD, List.getElem?_eq_getElem (show 5 < rs.length by omega)]; rfl
        refine ⟨_, rfl, ra, _, _, _, rfl, rfl, hra, atI_nat (j := 5) hv5, qa, _, _, _, rfl, rfl, hqa, hq0, rfl, _, rfl, ?_⟩
        rw [str_dec]
        cases c2 : ((rs[5]'(by omega)).verb == "div") with
        | true =>
          refine iteT ?_
          refine ⟨(by show 3 ≤ sizeLine; decide), fun q1 hq1 => ?_⟩
          have s1 := same_new hq1 (.tup [.int 5, .str "main", .int 0])
          have d1 : Dp K (upd H4 q1 (.tup [.int 5, .str "main", .int 0])) (.ref q1) (.tuple [.int 5, .str "main", .int 0]) := .tup (SqT.of upd_same) (.cons (.int _) (.cons (.str _) (.cons (.int _) .nil)))
          generalize upd H4 q1 (.tup [.int 5, .str "main", .int 0]) = H5 at s1 d1 ⊢
          refine ⟨(by show 3 ≤ sizeLine; decide), fun q2 hq2 => ?_⟩
          have s2 := same_new hq2 (.tup [.int 6, .str "main", .int 1])
          have d2 : Dp K (upd H5 q2 (.tup [.int 6, .str "main", .int 1])) (.ref q2) (.tuple [.int 6, .str "main", .int 1]) := .tup (SqT.of upd_same) (.cons (.int _) (.cons (.str _) (.cons (.int _) .nil)))
          have d1' := dp_same s2 d1
          generalize upd H5 q2 (.tup [.int 6, .str "main", .int 1]) = H6 at s2 d2 d1' ⊢
          refine ⟨(by show 2 ≤ sizeLine; decide), fun q3 hq3 => ?_⟩
          have s3 := same_new hq3 (.tup [.ref q1, .ref q2])
          refine hnx _ _ ⟨.ref q3, rfl, (s1.trans s2).trans s3, ?_⟩
          unfold placesW
          rw [if_pos ⟨c1, by rw [g5]; exact c2⟩]
          exact .tup (SqT.of upd_same) (.cons (dp_same s3 d1') (.cons (dp_same s3 d2) .nil))
        | false =>
          refine iteF ?_
          refine ⟨(by show 0 ≤ sizeLine; decide), fun pe hpe => ?_⟩
          exact els (fun z => by rw [g5, c2] at z; exact Bool.false_ne_true z.2) pe hpe
      · refine ifF (decide_eq_false (show ¬ ((rs.length : Nat) : Int) = 10 by omega)) ?_
        refine iteF ?_
        refine ⟨(by show 0 ≤ sizeLine; decide), fun pe hpe => ?_⟩
        exact els (fun z => c1 z.1) pe hpe
  · rintro σ H' ⟨o0, o1, o2, o3, o4, rfl, e⟩
    exact k H' (e1.trans e)
end
end Lk

set_option Elab.async false
set_option linter.all false
set_option maxRecDepth 100000
set_option maxHeartbeats 4000000
namespace Lk
open PySem PySem.Spec PyProof.Rows L2
def nums : List Ro := List.replicate 500 (.num 0 1) ++ [.plain false]
def callsR : List Ro := [.call "a0" 7, .call "a1" 7, .call "a2" 7, .call "a3" 7, .call "a4" 7, .call "z" 7, .plain false]
def zR : List Ro := List.replicate 9 (.plain true) ++ [.jump 0]
def farF : List (Str × List Ro) := [("a0", nums), ("a1", nums), ("a2", nums), ("a3", nums), ("a4", nums), ("main", callsR), ("z", zR)]
def farWords : List Int := (List.replicate 5 ((List.replicate 500 [4096, 1]).flatten ++ [256])).flatten ++ [61440, 0, 61440, 1001, 61440, 2002, 61440, 3003, 61440, 4004] ++ ([61440, 5018, 256] ++ List.replicate 9 0 ++ [49152, 5018])
theorem far_wf : WF farF := by
  refine wf_ofB (by decide +kernel) (by decide +kernel) (by decide +kernel) ?_
  decide +kernel
theorem csOf_noJ {rs : List Ro} (h : ∀ r ∈ rs, r.isJ = false) : csOf rs = [] := by
  have hf : farL [] (thsOf rs) (-8) 7 = [] := by
    refine List.filter_eq_nil_iff.mpr fun i hi => ?_
    have hi' := List.mem_range.mp hi
    rw [ths_len] at hi'
    unfold isFar
    rw [ths_at rs hi']
    have hr := h _ (getD_mem' hi')
    generalize rs.getD i (.plain true) = r at hr ⊢
    cases r <;> first | (cases hr; done) | exact Bool.false_ne_true
  show leastN (thsOf rs) (-8) 7 ((thsOf rs).length + 1) [] = []
  rw [leastN, hf]
theorem nums_noJ : ∀ r ∈ nums, r.isJ = false := by decide +kernel
theorem nums_cs : csOf nums = [] := csOf_noJ nums_noJ
theorem nums_at {k : Nat} (h : k < 500) : nums.getD k (.plain true) = .num 0 1 := by
  unfold nums
  rw [List.getD_eq_getElem?_getD, List.getElem?_append_left (by rw [List.length_replicate]; exact h), List.getElem?_replicate, if_pos h]
  rfl
theorem nums_last : nums.getD 500 (.plain true) = .plain false := by kernel_rfl
theorem nums_len : nums.length = 501 := by unfold nums; rw [List.length_append, List.length_replicate]; rfl
theorem nums_adr : ∀ k, k ≤ 500 → adr nums k = 2 * (k : Int)
  | 0, _ => rfl
  | k + 1, h => by
    rw [adr_succ (by rw [nums_len]; omega), nums_adr k (by omega), nums_at (by omega)]
    show 2 * (k : Int) + 2 = _
    omega
theorem nums_total : total nums = 1001 := by
  unfold total
  rw [nums_len, adr_succ (by rw [nums_len]; omega), nums_adr 500 (Nat.le_refl _), nums_last]
  try rfl
def numsE (b : Int) : List Ent := (List.range 500).map (fun (k : Nat) => (⟨b + 2 * (k : Int), .num 0 1, false, 0⟩ : Ent)) ++ [⟨b + 1000, .plain false, false, 0⟩]
theorem nums_e1 (b : Int) (ss : List (Str × Int)) : entsTo b ss nums 500 = (List.range 500).map (fun (k : Nat) => (⟨b + 2 * (k : Int), .num 0 1, false, 0⟩ : Ent)) := by
  unfold entsTo
  refine List.map_congr_left fun k hk => ?_
  have hk' := List.mem_range.mp hk
  unfold entAt
  rw [nums_at hk', nums_adr k (by omega), nums_cs]
  rfl
theorem nums_e2 (b : Int) (ss : List (Str × Int)) : entAt b ss nums 500 = ⟨b + 1000, .plain false, false, 0⟩ := by
  unfold entAt
  rw [nums_last, nums_adr 500 (Nat.le_refl _), nums_cs]
  rfl
theorem nums_ents (b : Int) (ss : List (Str × Int)) : entsTo b ss nums nums.length = numsE b := by
  rw [nums_len, entsTo_succ, nums_e1, nums_e2]
  unfold numsE
  with_reducible rfl
theorem calls_total : total callsR = 13 := by decide +kernel
theorem far_b1 : baseAt farF 1 = 1001 := by show 0 + total nums = 1001; rw [nums_total]; rfl
theorem far_b2 : baseAt farF 2 = 2002 := by show baseAt farF 1 + total nums = 2002; rw [far_b1, nums_total]; rfl
theorem far_b3 : baseAt farF 3 = 3003 := by show baseAt farF 2 + total nums = 3003; rw [far_b2, nums_total]; rfl
theorem far_b4 : baseAt farF 4 = 4004 := by show baseAt farF 3 + total nums = 4004; rw [far_b3, nums_total]; rfl
theorem far_b5 : baseAt farF 5 = 5005 := by show baseAt farF 4 + total nums = 5005; rw [far_b4, nums_total]; rfl
theorem far_b6 : baseAt farF 6 = 5018 := by show baseAt farF 5 + total callsR = 5018; rw [far_b5, calls_total]; rfl
def ssF : List (Str × Int) := [("a0", 0), ("a1", 1001), ("a2", 2002), ("a3", 3003), ("a4", 4004), ("main", 5005), ("z", 5018)]
theorem far_starts : startsOf farF = ssF := by
  show [(("a0" : Str), (0 : Int)), ("a1", baseAt farF 1), ("a2", baseAt farF 2), ("a3", baseAt farF 3), ("a4", baseAt farF 4), ("main", baseAt farF 5), ("z", baseAt farF 6)] = ssF
  rw [far_b1, far_b2, far_b3, far_b4, far_b5, far_b6]
  rfl
def callsE : List Ent := [⟨5005, .call "a0" 7, false, 0⟩, ⟨5007, .call "a1" 7, false, 1001⟩, ⟨5009, .call "a2" 7, false, 2002⟩, ⟨5011, .call "a3" 7, false, 3003⟩, ⟨5013, .call "a4" 7, false, 4004⟩, ⟨5015, .call "z" 7, false, 5018⟩, ⟨5017, .plain false, false, 0⟩]
theorem calls_ents : entsTo 5005 ssF callsR callsR.length = callsE := by kernel_rfl
def zE : List Ent := [⟨5018, .plain true, false, 0⟩, ⟨5019, .plain true, false, 0⟩, ⟨5020, .plain true, false, 0⟩, ⟨5021, .plain true, false, 0⟩, ⟨5022, .plain true, false, 0⟩, ⟨5023, .plain true, false, 0⟩, ⟨5024, .plain true, false, 0⟩, ⟨5025, .plain true, false, 0⟩, ⟨5026, .plain true, false, 0⟩, ⟨5027, .jump 0, true, 5018⟩]
theorem z_ents : entsTo 5018 ssF zR zR.length = zE := by kernel_rfl
theorem far_f0 : fnEnts farF 0 = numsE 0 := nums_ents 0 _
theorem far_f1 : fnEnts farF 1 = numsE 1001 := by show entsTo (baseAt farF 1) (startsOf farF) nums nums.length = _; rw [far_b1]; exact nums_ents _ _
theorem far_f2 : fnEnts farF 2 = numsE 2002 := by show entsTo (baseAt farF 2) (startsOf farF) nums nums.length = _; rw [far_b2]; exact nums_ents _ _
theorem far_f3 : fnEnts farF 3 = numsE 3003 := by show entsTo (baseAt farF 3) (startsOf farF) nums nums.length = _; rw [far_b3]; exact nums_ents _ _
theorem far_f4 : fnEnts farF 4 = numsE 4004 := by show entsTo (baseAt farF 4) (startsOf farF) nums nums.length = _; rw [far_b4]; exact nums_ents _ _
theorem far_f5 : fnEnts farF 5 = callsE := by show entsTo (baseAt farF 5) (startsOf farF) callsR callsR.length = _; rw [far_b5, far_starts]; exact calls_ents
theorem far_f6 : fnEnts farF 6 = zE := by show entsTo (baseAt farF 6) (startsOf farF) zR zR.length = _; rw [far_b6, far_starts]; exact z_ents
def farE : List Ent := numsE 0 ++ (numsE 1001 ++ (numsE 2002 ++ (numsE 3003 ++ (numsE 4004 ++ (callsE ++ (zE ++ []))))))
theorem far_all : allE farF = farE := by
  show fnEnts farF 0 ++ (fnEnts farF 1 ++ (fnEnts farF 2 ++ (fnEnts farF 3 ++ (fnEnts farF 4 ++ (fnEnts farF 5 ++ (fnEnts farF 6 ++ [])))))) = farE
  rw [far_f0, far_f1, far_f2, far_f3, far_f4, far_f5, far_f6]
  rfl
theorem far_words : wordsE (allE farF) = farWords := by
  rw [far_all]
  decide +kernel
theorem far_main : mainAt farF = 5005 := by
  unfold mainAt
  rw [far_starts]
  decide +kernel
def callD (k : Nat) : PyData := .tuple [.int (5005 + 2 * (k : Int)), .str "main", .int 7]
def placesF : List PyData := (List.range 6).map callD
theorem nums_places (t : Str) (b : Int) : (numsE b).flatMap (fun e => e.r.place t e.a) = [] := by
  refine List.flatMap_eq_nil_iff.mpr fun e he => ?_
  unfold numsE at he
  rcases List.mem_append.mp he with h | h
  · obtain ⟨k, _, rfl⟩ := List.mem_map.mp h
    rfl
  · rw [List.mem_singleton.mp h]
    rfl
theorem far_places : placesAll farF 7 = placesF := by
  show (fnEnts farF 0).flatMap (fun e => e.r.place "a0" e.a) ++ ((fnEnts farF 1).flatMap (fun e => e.r.place "a1" e.a) ++ ((fnEnts farF 2).flatMap (fun e => e.r.place "a2" e.a) ++ ((fnEnts farF 3).flatMap (fun e => e.r.place "a3" e.a) ++ ((fnEnts farF 4).flatMap (fun e => e.r.place "a4" e.a) ++ ((fnEnts farF 5).flatMap (fun e => e.r.place "main" e.a) ++ ((fnEnts farF 6).flatMap (fun e => e.r.place "z" e.a) ++ [])))))) = placesF
  rw [far_f0, far_f1, far_f2, far_f3, far_f4, far_f5, far_f6, nums_places, nums_places, nums_places, nums_places, nums_places]
  kernel_rfl
/-! what is due of the rows -/
def numD (k i : Nat) : PyData := .tuple [.int (1001 * (k : Int) + 2 * (i : Int)), .tuple [.str "number", .int 0, .int 1]]
def partD (k : Nat) : List PyData := (List.range 500).map (numD k) ++ [.tuple [.int (1001 * (k : Int) + 1000), .tuple [.str "back"]]]
def crD : List PyData := [.tuple [.str "call", .int 0], .tuple [.str "call", .int 1001], .tuple [.str "call", .int 2002], .tuple [.str "call", .int 3003], .tuple [.str "call", .int 4004], .tuple [.str "call", .int 5018], .tuple [.str "back"]]
def crdD (k : Nat) : PyData := .tuple [.int (5005 + 2 * (k : Int)), crD.getD k .none]
def beatD (k : Nat) : PyData := .tuple [.int (5018 + (k : Int)), .tuple [.str "beat"]]
def dueTo (n : Nat) : List PyData := (List.range n).flatMap partD
def dueD : List PyData := dueTo 5 ++ (List.range 7).map crdD ++ ((List.range 9).map beatD ++ [.tuple [.int 5027, .tuple [.str "jump", .int 5018]]])
theorem nums_back (k : Nat) : (numsE (1001 * (k : Int))).map Ent.back = partD k := by
  unfold numsE partD
  rw [List.map_append, List.map_map]
  rfl
theorem far_back : (allE farF).map Ent.back = dueD := by
  rw [far_all]
  unfold farE
  rw [List.map_append, List.map_append, List.map_append, List.map_append, List.map_append]
  have h0 := nums_back 0
  have h1 := nums_back 1
  have h2 := nums_back 2
  have h3 := nums_back 3
  have h4 := nums_back 4
  rw [show (1001 * ((0 : Nat) : Int)) = 0 by rfl] at h0
  rw [show (1001 * ((1 : Nat) : Int)) = 1001 by rfl] at h1
  rw [show (1001 * ((2 : Nat) : Int)) = 2002 by rfl] at h2
  rw [show (1001 * ((3 : Nat) : Int)) = 3003 by rfl] at h3
  rw [show (1001 * ((4 : Nat) : Int)) = 4004 by rfl] at h4
  rw [h0, h1, h2, h3, h4]
  have hc : (callsE ++ (zE ++ [])).map Ent.back = (List.range 7).map crdD ++ ((List.range 9).map beatD ++ [.tuple [.int 5027, .tuple [.str "jump", .int 5018]]]) := by kernel_rfl
  rw [hc]
  show _ = (partD 0 ++ (partD 1 ++ (partD 2 ++ (partD 3 ++ (partD 4 ++ []))))) ++ _ ++ _
  simp only [List.append_assoc, List.nil_append, List.append_nil]
end Lk

set_option Elab.async false
set_option linter.all false
set_option maxRecDepth 100000
set_option maxHeartbeats 4000000
namespace Lk
open PySem PySem.Spec PyProof.Rows L2
section
variable {K : PySem.W.Frag} {σ : L2.St} {H0 : Hp} {l : Addr}
theorem ev_catB {ta tb : TE} {ds es : List PyData} (a : EvD K σ H0 ta (.tuple ds)) (b : EvD K σ H0 tb (.tuple es)) (n : ds.length ≤ 100000) (m : es.length ≤ 100000) : EvD K σ H0 (tOp (rCatS K) ta tb) (.tuple (ds ++ es)) := fun H Q e k =>
  a H _ e fun x H1 e1 h1 => b H1 _ (e.trans e1) fun y H2 e2 h2 => by
    obtain ⟨p, xs, rfl, hp, hx⟩ := tup_of (dp_same e2 h1)
    obtain ⟨q, ys, rfl, hq, hy⟩ := tup_of h2
    refine ⟨p, q, xs, ys, rfl, rfl, hp, hq, by rw [dp_len hx, dp_len hy]; exact Nat.le_of_lt (szl (by omega)), fun r H3 e3 h3 => ?_⟩
    exact k _ _ ((e1.trans e2).trans e3) (.tup h3 (dpAll_cat (dpAll_same e3 hx) (dpAll_same e3 hy)))
theorem dpAll_rep {H : Hp} {xs : List V} {ds : List PyData} (h : DpAll K H xs ds) : ∀ n, DpAll K H (List.replicate n xs).flatten (List.replicate n ds).flatten
  | 0 => .nil
  | n + 1 => by
    rw [List.replicate_succ, List.replicate_succ, List.flatten_cons, List.flatten_cons]
    exact dpAll_cat h (dpAll_rep h n)
theorem ev_repB {ta : TE} {ds : List PyData} {k : Int} (a : EvD K σ H0 ta (.tuple ds)) (h0 : 0 < ds.length) (hz : ds.length ≤ 2000) (k0 : 2 ≤ k) (k1 : k ≤ 1000) : EvD K σ H0 (tOp (rRepB K) ta (tC (.int k))) (.tuple (List.replicate k.toNat ds).flatten) := fun H Q e kk =>
  a H _ e fun x H1 e1 h1 => by
    obtain ⟨p, xs, rfl, hp, hx⟩ := tup_of h1
    have hl := dp_len hx
    refine ⟨p, k, xs, rfl, rfl, hp, (fun z => by rw [z] at hl; simp at hl; omega), k0, k1, by omega, fun q hq => ?_⟩
    exact kk _ _ (e1.trans (same_new hq _)) (.tup (SqT.of upd_same) (dpAll_same (same_new hq _) (dpAll_rep hx _)))
theorem ee_mul {ta tb : TE} {i j : Int} (a : EvE K l σ H0 ta (.int i)) (b : EvE K l σ H0 tb (.int j)) (c : CMul i j) : EvE K l σ H0 (tOp (rI CMul fun i j => .int (i * j)) ta tb) (.int (i * j)) := fun H Q e k =>
  a H _ e fun x H1 e1 h1 => b H1 _ (e.trans e1) fun y H2 e2 h2 => by
    cases h1; cases h2
    exact ⟨_, _, rfl, rfl, c, k _ _ (e1.trans e2) (.int _)⟩
theorem ee_intv {i : Nat} {n : Int} (h : σ[i]? = some (some (.int n))) : EvE K l σ H0 (tVar i) (.int n) := ee_var h (.int n)
theorem noLs_gen {f : Nat → PyData} (h : ∀ i, noL (f i) = true) : ∀ is : List Nat, noLs (is.map f) = true
  | [] => rfl
  | i :: is => by show (noL (f i) && noLs (is.map f)) = true; rw [h i, noLs_gen h is]; rfl
/-- [.. for k in range(n)] -/
theorem lcR {te : TE} {f : Nat → PyData} {n : Nat} {j : Nat} {vs : List Nat} {zs : List V} {Q : VK} (hl : H0 l = some (.lst zs)) (hn : n ≤ 1000) (hf : ∀ i, noL (f i) = true) (hw : ∀ x, wipe ((wipe σ vs).set j (some x)) vs = wipe σ vs)
    (he : ∀ i, i < n → EvE K l ((wipe σ vs).set j (some (.int ((0 : Int) + (i : Nat))))) H0 te (f i))
    (k : ∀ (p : Addr) (xs : List V) (H' : Hp), Same H0 H' → H0 p = none → H' p = some (.lst xs) → DpAll K (del H' l) xs ((List.range n).map f) → Q (.ref p) H') :
    tLc (iRng1 (tCons (tC (.int (n : Int))) tNil)) (gName j) tYes te vs σ H0 Q := by
  refine ⟨(n : Int), rfl, by omega, by omega, fun D hD => ?_⟩
  have nD : D ≠ l := fun z => by rw [z, hl] at hD; cases hD
  refine lc_it (walk_range (lo := 0) (n := (n : Int).toNat)) (fun i H' => Same H0 H' ∧ ∃ acc, H' D = some (.lst acc) ∧ DpAll K (del H' l) acc ((List.range i).map f)) ?_ ?_ ?_ ?_
  · exact ⟨same_new hD _, [], upd_same, .nil⟩
  · rintro i H' _ _
    trivial
  · rintro i x HX HB hi ⟨eB, acc, eD, hacc⟩ ⟨rfl, rfl⟩
    refine ⟨hw _, ?_⟩
    refine he i (by omega) HB _ eB fun y HC eC hy => ?_
    have hk : (List.range (i + 1)).map f = (List.range i).map f ++ [f i] := by rw [List.range_succ, List.map_append]; rfl
    have al : acc.length = i := by rw [dp_len hacc, List.length_map, List.length_range]
    refine ⟨acc, eC _ _ eD, szl (by omega), same_mut (eB.trans eC) hD, acc ++ [y], upd_same, ?_⟩
    rw [hk]
    refine off_mut (dpAll_app (dpAll_same (same_del l eC) hacc) hy) ?_ (eC _ _ eD) nD
    rw [← hk]
    exact noLs_gen hf _
  · rintro HB ⟨eB, acc, eD, hacc⟩
    rw [show (n : Int).toNat = n by omega] at hacc
    exact k D acc HB eB hD eD hacc
/-- [.. for x in names] -/
theorem lcN {te : TE} {names : List Str} {f : Str → PyData} {a j v : Nat} {vs : List Nat} {na : Addr} {zs : List V} {Q : VK} (hσ : σ[v]? = some (some (.ref na))) (hna : SqL K H0 na (names.map V.str)) (hl : H0 l = some (.lst zs)) (hn : names.length ≤ 1000) (hf : ∀ i, noL (f i) = true) (hw : ∀ x, wipe ((wipe σ vs).set j (some x)) vs = wipe σ vs)
    (he : ∀ s, s ∈ names → EvE K l ((wipe σ vs).set j (some (.str s))) H0 te (f s))
    (k : ∀ (p : Addr) (xs : List V) (H' : Hp), Same H0 H' → H0 p = none → H' p = some (.lst xs) → DpAll K (del H' l) xs (names.map f) → Q (.ref p) H') :
    tLc (iList K (tVar v)) (gName j) tYes te vs σ H0 Q := by
  refine ⟨_, hσ, na, rfl, ⟨_, hna⟩, fun D hD => ?_⟩
  have nD : D ≠ l := fun z => by rw [z, hl] at hD; cases hD
  have noLf : ∀ l : List Str, noLs (l.map f) = true := fun l => by
    induction l with
    | nil => rfl
    | cons s l ih => show (noL (f s) && noLs (l.map f)) = true; rw [hf s, ih]; rfl
  refine lc_list (K := K) (a := na) (xs := names.map V.str) (fun i H' => Same H0 H' ∧ ∃ acc, H' D = some (.lst acc) ∧ DpAll K (del H' l) acc ((names.take i).map f)) ?_ ?_ ?_ ?_
  · exact ⟨same_new hD _, [], upd_same, .nil⟩
  · rintro i H' _ ⟨e, _⟩
    exact e.seq hna
  · rintro i x HB hix ⟨eB, acc, eD, hacc⟩
    obtain ⟨nm, hnm, rfl⟩ : ∃ nm, names[i]? = some nm ∧ x = V.str nm := by
      rw [List.getElem?_map] at hix
      cases c : names[i]? with
      | none => rw [c] at hix; cases hix
      | some nm => rw [c] at hix; exact ⟨nm, rfl, (Option.some.inj hix).symm⟩
    refine ⟨hw _, ?_⟩
    refine he nm (List.mem_of_getElem? hnm) HB _ eB fun y HC eC hy => ?_
    have hk : (names.take (i + 1)).map f = (names.take i).map f ++ [f nm] := by rw [List.take_succ, hnm, List.map_append]; rfl
    have al : acc.length ≤ 1000 := by rw [dp_len hacc, List.length_map, List.length_take]; omega
    refine ⟨acc, eC _ _ eD, szl (by omega), same_mut (eB.trans eC) hD, acc ++ [y], upd_same, ?_⟩
    rw [hk]
    refine off_mut (dpAll_app (dpAll_same (same_del l eC) hacc) hy) ?_ (eC _ _ eD) nD
    rw [← hk]
    exact noLf _
  · rintro HB ⟨eB, acc, eD, hacc⟩
    rw [List.length_map, List.take_length] at hacc
    exact k D acc HB eB hD eD hacc
end
theorem nums_d : rowsD nums = .tuple (List.replicate (500 : Int).toNat (.tuple [.str "number", .int 0, .int 1]) ++ [.tuple [.str "back"]]) := by
  unfold rowsD nums
  rw [List.map_append, List.map_replicate]
  rfl
theorem z_d : rowsD zR = .tuple (List.replicate (9 : Int).toNat (.tuple [.str "beat"]) ++ [.tuple [.str "jump", .int 0]]) := by
  unfold rowsD zR
  rw [List.map_append, List.map_replicate]
  rfl
theorem words_d : PyData.tuple (farWords.map .int) = .tuple ((((List.replicate (5 : Int).toNat ((List.replicate (500 : Int).toNat [.int 4096, .int 1]).flatten ++ [.int 256])).flatten ++ [.int 61440, .int 0, .int 61440, .int 1001, .int 61440, .int 2002, .int 61440, .int 3003, .int 61440, .int 4004]) ++ [.int 61440, .int 5018, .int 256]) ++ List.replicate (9 : Int).toNat (.int 0) ++ [.int 49152, .int 5018]) := by
  refine congrArg PyData.tuple ?_
  unfold farWords
  simp only [List.map_append, List.map_flatten, List.map_replicate, List.map_cons, List.map_nil]
  simp only [List.append_assoc]
  rfl
end Lk

set_option Elab.async false
set_option linter.all false
set_option maxRecDepth 100000
set_option maxHeartbeats 4000000
namespace Lk
open PySem PySem.Spec PyProof.Rows L2
section
variable {K : PySem.W.Frag} {σ : L2.St} {H0 : Hp} {l : Addr}
theorem goTL {t : TE} {tl : TA} {g : List V → L2.St → Hp → (L2.St → Hp → Prop) → Prop} {rest : TS} {D : Ends} {d : PyData} {ds : List PyData} {n : Nat} (e : EvD K σ H0 t d) (el : EvA K σ H0 tl ds) (hz : ds.length ≤ 1000) (hn : n = 2)
    (k : ∀ v0 na xs H', Same H0 H' → H0 na = none → H' na = some (.lst xs) → DpAll K (del H' na) xs ds → Dp K (del H' na) v0 d → g [v0, .ref na] σ H' (rest D)) : tSeq (tAsg (tTup (tCons t (tCons (tLst tl) tNil))) (gTup K n g)) rest D σ H0 := by
  subst hn
  refine e H0 _ (Same.refl _) fun x H1 e1 h1 => el H1 _ e1 fun xs H2 e2 h2 => ⟨by rw [dp_len h2]; exact Nat.le_of_lt (szl (by omega)), fun p hp => ?_⟩
  refine ⟨by show 2 ≤ sizeLine; decide, fun q hq => ?_⟩
  have s3 := same_new hp (.lst xs)
  have nqp : p ≠ q := fun z => by rw [← z, upd_same] at hq; cases hq
  have s4 := same_new hq (.tup [x, .ref p])
  refine ⟨q, [x, .ref p], rfl, SqT.of upd_same, rfl, ?_⟩
  have dd : Same H2 (del (upd (upd H2 p (.lst xs)) q (.tup [x, .ref p])) p) := fun b o h => by
    have nb : b ≠ p := fun z => by rw [z, hp] at h; cases h
    have nq : b ≠ q := fun z => by
      have := s3 b o h
      rw [z, hq] at this; cases this
    rw [del_ne nb, upd_ne nq, upd_ne nb]; exact h
  refine k x p xs _ (((e1.trans e2).trans s3).trans s4) (none_of (e1.trans e2) hp) ?_ (dpAll_same dd h2) (dp_same (e2.trans dd) h1)
  rw [upd_ne nqp, upd_same]
theorem goCB1 {r : List V → Hp → VK → Prop} {t : TE} {g : TG} {rest : TS} {D : Ends} (h : t σ H0 fun x H1 => r [x] H1 fun z H2 => g z σ H2 (rest D)) : tSeq (tAsg (tCB r (tCons t tNil)) g) rest D σ H0 := h
theorem asgE {t : TE} {g : TG} {D : Ends} {d : PyData} (e : EvE K l σ H0 t d) (k : ∀ x H', Same H0 H' → Dp K (del H' l) x d → g x σ H' D.nx) : tAsg t g D σ H0 := e H0 _ (Same.refl _) k
theorem goEg {t : TE} {g : TG} {rest : TS} {D : Ends} {d : PyData} (e : EvE K l σ H0 t d) (k : ∀ x H', Same H0 H' → Dp K (del H' l) x d → g x σ H' (rest D)) : tSeq (tAsg t g) rest D σ H0 := e H0 _ (Same.refl _) k
theorem ee_ixL {i j : Nat} {n : Nat} {xs : List V} {x : V} {d : PyData} (h1 : σ[i]? = some (some (.ref l))) (h2 : σ[j]? = some (some (.int ((0 : Int) + (n : Nat))))) (hl : H0 l = some (.lst xs)) (hx : xs[n]? = some x) (hd : Dp K (del H0 l) x d) : EvE K l σ H0 (tOp (rIxL K) (tVar i) (tVar j)) d := fun H Q e kk => by
  refine ⟨_, h1, _, h2, l, _, _, _, rfl, rfl, SqL.of (e _ _ hl), ?_, kk x H (Same.refl _) (dp_same (same_del l e) hd)⟩
  rw [Int.zero_add]
  exact atI_nat hx
theorem dpAll_set {H : Hp} : ∀ {xs : List V} {ds : List PyData} {i : Nat} {x : V} {d : PyData}, DpAll K H xs ds → Dp K H x d → DpAll K H (xs.set i x) (ds.set i d)
  | _, _, _, _, _, .nil, _ => .nil
  | _, _, 0, _, _, .cons _ r, h => .cons h r
  | _, _, i + 1, _, _, .cons a r, h => .cons a (dpAll_set r h)
theorem goOp {r : R2} {ta tb : TE} {g : TG} {rest : TS} {D : Ends} (h : ta σ H0 fun x H1 => tb σ H1 fun y H2 => r x y H2 fun z H3 => g z σ H3 (rest D)) : tSeq (tAsg (tOp r ta tb) g) rest D σ H0 := h
theorem opIn {r : R2} {ta tb : TE} {Q : VK} (h : ta σ H0 fun x H1 => tb σ H1 fun y H2 => r x y H2 Q) : tOp r ta tb σ H0 Q := h
theorem varIn {i : Nat} {x : V} {Q : VK} (h : σ[i]? = some (some x)) (q : Q x H0) : tVar i σ H0 Q := ⟨x, h, q⟩
theorem lsE {ts : TA} {ds : List PyData} {zs : List V} {Q : VK} (hl : H0 l = some (.lst zs)) (a : EaE K l σ H0 ts ds) (n : ds.length ≤ 1000) (hd : noLs ds = true)
    (k : ∀ (p : Addr) (xs : List V) (H' : Hp), Same H0 H' → H0 p = none → H' p = some (.lst xs) → DpAll K (del H' l) xs ds → Q (.ref p) H') : tLst ts σ H0 Q :=
  a H0 _ (Same.refl _) fun xs H1 e1 h1 => ⟨by rw [dp_len h1]; exact Nat.le_of_lt (szl (by omega)), fun p hp => k p xs _ (e1.trans (same_new hp _)) (none_of e1 hp) upd_same (dpAll_same (same_del l (same_new hp _)) h1)⟩
theorem catE {p q : Addr} {xs ys : List V} {ds es : List PyData} {Q : VK} (h1 : H0 p = some (.lst xs)) (h2 : H0 q = some (.lst ys)) (d1 : DpAll K (del H0 l) xs ds) (d2 : DpAll K (del H0 l) ys es) (n : ds.length + es.length ≤ 100000)
    (k : ∀ (r : Addr) (H' : Hp), Same H0 H' → H0 r = none → H' r = some (.lst (xs ++ ys)) → DpAll K (del H' l) (xs ++ ys) (ds ++ es) → Q (.ref r) H') : rCat (.ref p) (.ref q) H0 Q :=
  ⟨p, q, xs, ys, rfl, rfl, h1, h2, by rw [dp_len d1, dp_len d2]; exact Nat.le_of_lt (szl (by omega)), fun r hr => k r _ (same_new hr _) hr upd_same (dpAll_same (same_del l (same_new hr _)) (dpAll_cat d1 d2))⟩
theorem strs_ofD {H : Hp} : ∀ {xs : List V} {ss : List Str}, DpAll K H xs (ss.map PyData.str) → xs = ss.map V.str
  | _, [], .nil => rfl
  | _, s :: ss, .cons a r => by cases a; rw [strs_ofD r]; rfl
end
def namesF : List Str := ["a0", "a1", "a2", "a3", "a4"]
def callF (s : Str) : PyData := .tuple [.str "call", .str s, .int 7]
def fnF (s : Str) : PyData := .tuple [.str s, .int 0, rowsD nums]
theorem calls_d : namesF.map callF ++ [.tuple [.str "call", .str "z", .int 7], .tuple [.str "back"]] = callsR.map Ro.d := rfl
theorem fns_d : namesF.map fnF ++ [.tuple [.str "main", .int 0, .tuple (callsR.map Ro.d)]] ++ [.tuple [.str "z", .int 0, rowsD zR]] = farF.map fnD := rfl
theorem fnF_noL (s : Str) : noL (fnF s) = true := by
  show (true && (true && (noL (rowsD nums) && true))) = true
  rw [rows_noL]; rfl
theorem callD0 (i : Nat) : callD i = .tuple [.int (5005 + 2 * ((0 : Int) + (i : Nat))), .str "main", .int 7] := by unfold callD; rw [Int.zero_add]
theorem image_far : imageD 1 0 0 farF = .tuple [.tuple (farWords.map .int), .int 5005, .int 1, .int 0, .int 0, .tuple placesF] := by
  unfold imageD
  rw [far_words, far_main, show farF.length = 7 from rfl, far_places]
def crTo (i : Nat) : List PyData := crD.take i ++ (callsR.map Ro.d).drop i
theorem crTo_noL : ∀ i, i ≤ 6 → noLs (crTo i) = true := by decide +kernel
theorem numD_noL (k i : Nat) : noL (numD k i) = true := rfl
theorem crdD_noL : ∀ k, noL (crdD k) = true := by
  intro k
  show (true && (noL (crD.getD k .none) && true)) = true
  by_cases h : k < 7
  · have : ∀ k < 7, noL (crD.getD k .none) = true := by decide +kernel
    rw [this k h]; rfl
  · rw [List.getD_eq_getElem?_getD, List.getElem?_eq_none (by show 7 ≤ k; omega)]; rfl
theorem dueTo_succ (n : Nat) : dueTo (n + 1) = dueTo n ++ (List.range 500).map (numD n) ++ [.tuple [.int (1001 * (n : Int) + 1000), .tuple [.str "back"]]] := by
  unfold dueTo
  rw [List.range_succ, List.flatMap_append, List.append_assoc]
  have e : [n].flatMap partD = (List.range 500).map (numD n) ++ [.tuple [.int (1001 * (n : Int) + 1000), .tuple [.str "back"]]] := by
    rw [List.flatMap_cons, List.flatMap_nil, List.append_nil]
    unfold partD
    with_reducible rfl
  rw [e]
theorem dueTo_len : ∀ n, (dueTo n).length = 501 * n
  | 0 => rfl
  | n + 1 => by
    rw [dueTo_succ, List.length_append, List.length_append, dueTo_len n, List.length_map, List.length_range]
    simp only [List.length_cons, List.length_nil]
    omega
theorem crTo_len : ∀ i, i ≤ 6 → (crTo i).length = 7 := by decide +kernel
theorem numD0 (k i : Nat) : numD k i = .tuple [.int (1001 * ((0 : Int) + (k : Nat)) + 2 * ((0 : Int) + (i : Nat))), .tuple [.str "number", .int 0, .int 1]] := by unfold numD; rw [Int.zero_add, Int.zero_add]
theorem crdD0 (k : Nat) : crdD k = .tuple [.int (5005 + 2 * ((0 : Int) + (k : Nat))), crD.getD k .none] := by unfold crdD; rw [Int.zero_add]
theorem beatD0 (k : Nat) : beatD k = .tuple [.int (5018 + ((0 : Int) + (k : Nat))), .tuple [.str "beat"]] := by unfold beatD; rw [Int.zero_add]
theorem backN0 (n : Nat) : (PyData.tuple [.int (1001 * (n : Int) + 1000), .tuple [.str "back"]]) = .tuple [.int (1001 * ((0 : Int) + (n : Nat)) + 1000), .tuple [.str "back"]] := by rw [Int.zero_add]
theorem crTo_set {i : Nat} (h : i < 5) : (crTo i).set i (.tuple [.str "call", .int (1001 * ((0 : Int) + (i : Nat)))]) = crTo (i + 1) := by
  match i, h with
  | 0, _ => kernel_rfl
  | 1, _ => kernel_rfl
  | 2, _ => kernel_rfl
  | 3, _ => kernel_rfl
  | 4, _ => kernel_rfl
theorem crTo_five : (crTo 5).set 5 (.tuple [.str "call", .int 5018]) = crD := by kernel_rfl
theorem crTo_zero : crTo 0 = callsR.map Ro.d := rfl
theorem ixN_n {n i : Nat} (h : i < n) : ixN n ((0 : Int) + (i : Nat)) = some i := by
  unfold ixN
  rw [Int.zero_add, if_pos (by omega), if_pos (by omega)]
  rfl
end Lk

set_option Elab.async false
set_option linter.all false
set_option maxRecDepth 100000
set_option pp.maxSteps 1500
set_option maxHeartbeats 4000000
namespace Lk
open PySem PySem.Spec PyProof.Rows L2
theorem words_noL : ∀ ws : List Int, noL (.tuple (ws.map .int)) = true
  | [] => rfl
  | w :: ws => by
    show (true && noLs (ws.map .int)) = true
    have := words_noL ws
    rw [show noLs (ws.map .int) = true from this]; rfl
section
variable {P : Program} {w : World} {K : PySem.W.Frag} {mg : Str → Option Value} {base : Heap}
theorem ok_far_right (T : Txt K mg) : FnG P w K mg base CX0 7 T.f__law_is_far_right T.d__law_is_far_right [] spTrue := by
  have nd := sc__law_is_far_right.nd
  refine okG T.F__law_is_far_right sc__law_is_far_right (fun vs H Q E h => ?_) (fun cdv A outer s H vs Q E gu0 hr h => ?_)
  · rw [h.1]; rfl
  obtain ⟨rfl, k⟩ := h
  have gu : (A.deeper (envOfC "_law_is_far_right" (defScope s__law_is_far_right) s.heap.objs.size T.f__law_is_far_right cdv)).guards = some [] := gu0
  have G_load : FnOk P w K mg base CX0 6 _ _ _ (spLoad K) := ok_load T
  have hr_load : Room 6 _ := hr
  have G_rows_in : FnOk P w K mg base CX0 3 _ _ _ (spRowsIn K) := ok_rows_in T
  have hr_rows_in : Room 3 _ := hr.mono (by omega)
  have G__law_same : FnG P w K mg base CX0 1 _ _ _ (spSame K) := ok_same T
  have hr__law_same : Room 1 _ := hr.mono (by omega)
  refine ⟨_, (pss_cons (ps_asg (pe_tup (pa_cons (pe_op op_catS (pe_op op_repS (pe_tup (pa_cons (pe_tup (pa_cons pe_str (pa_cons pe_int (pa_cons pe_int pa_nil)))) pa_nil)) pe_int) (pe_tup (pa_cons (pe_tup (pa_cons pe_str pa_nil)) pa_nil))) (pa_cons (pe_lst (pa_cons pe_str (pa_cons pe_str (pa_cons pe_str (pa_cons pe_str (pa_cons pe_str pa_nil)))))) pa_nil))) (pg_tup rfl (pgs_cons (pg_name (i := 0) nd rfl (Or.inr rfl)) (pgs_cons (pg_name (i := 1) nd rfl (Or.inl rfl)) pgs_nil))))
      (pss_cons (ps_set (i := 2) nd rfl (Or.inr rfl) (pe_op op_cat (pe_lc (own := [("_law_name", 8)]) (g := gName 8) (tt := tYes) (by rfl) nd (pi_list (pv 1)) (blkOk_by (own := [("_law_name", 8)]) (N := sl__law_is_far_right) (sc := defScope s__law_is_far_right) (by decide +kernel)) (fun _ _ _ _ _ => pg_name (i := 8) nd rfl (Or.inl rfl)) (fun _ _ _ _ _ => pts_nil) (fun _ _ _ _ _ => (pe_tup (pa_cons pe_str (pa_cons (pv 8) (pa_cons pe_int pa_nil)))))) (pe_lst (pa_cons (pe_tup (pa_cons pe_str (pa_cons pe_str (pa_cons pe_int pa_nil)))) (pa_cons (pe_tup (pa_cons pe_str pa_nil)) pa_nil)))))
      (pss_cons (ps_set (i := 3) nd rfl (Or.inl rfl) (pe_op op_cat (pe_lc (own := [("_law_name", 8)]) (g := gName 8) (tt := tYes) (by rfl) nd (pi_list (pv 1)) (blkOk_by (own := [("_law_name", 8)]) (N := sl__law_is_far_right) (sc := defScope s__law_is_far_right) (by decide +kernel)) (fun _ _ _ _ _ => pg_name (i := 8) nd rfl (Or.inl rfl)) (fun _ _ _ _ _ => pts_nil) (fun _ _ _ _ _ => (pe_tup (pa_cons (pv 8) (pa_cons pe_int (pa_cons (pv 0) pa_nil)))))) (pe_lst (pa_cons (pe_tup (pa_cons pe_str (pa_cons pe_int (pa_cons (pe_callTy call_tuple_of (by rfl) T.z_tuple (by decide +kernel) (pa_cons (pv 2) pa_nil)) pa_nil)))) pa_nil))))
      (pss_cons (ps_expr (pe_bm PySem.F.plainAttrs_list PySem.F.slot_list_append PySem.F.type_list_append mt_append (pv 3) (pa_cons (pe_tup (pa_cons pe_str (pa_cons pe_int (pa_cons (pe_op op_catS (pe_op op_repS (pe_tup (pa_cons (pe_tup (pa_cons pe_str pa_nil)) pa_nil)) pe_int) (pe_tup (pa_cons (pe_tup (pa_cons pe_str (pa_cons pe_int pa_nil))) pa_nil))) pa_nil)))) pa_nil)))
      (pss_cons (ps_set (i := 4) nd rfl (Or.inl rfl) (pe_op op_catS (pe_op op_repB (pe_op op_catS (pe_op op_repB (pe_tup (pa_cons pe_int (pa_cons pe_int pa_nil))) pe_int) (pe_tup (pa_cons pe_int pa_nil))) pe_int) (pe_tup (pa_cons pe_int (pa_cons pe_int (pa_cons pe_int (pa_cons pe_int (pa_cons pe_int (pa_cons pe_int (pa_cons pe_int (pa_cons pe_int (pa_cons pe_int (pa_cons pe_int pa_nil)))))))))))))
      (pss_cons (ps_set (i := 4) nd rfl (Or.inl rfl) (pe_op op_catS (pe_op op_catS (pe_op op_catS (pv 4) (pe_tup (pa_cons pe_int (pa_cons pe_int (pa_cons pe_int pa_nil))))) (pe_op op_repS (pe_tup (pa_cons pe_int pa_nil)) pe_int)) (pe_tup (pa_cons pe_int (pa_cons pe_int pa_nil)))))
      (pss_cons (ps_set (i := 5) nd rfl (Or.inl rfl) (pe_callTy call_tuple_of (by rfl) T.z_tuple (by decide +kernel) (pa_cons (pe_lc (own := [("_law_k", 7)]) (g := gName 7) (tt := tYes) (by rfl) nd (pi_range1 (by rfl) T.z_range (pa_cons pe_int pa_nil)) (blkOk_by (own := [("_law_k", 7)]) (N := sl__law_is_far_right) (sc := defScope s__law_is_far_right) (by decide +kernel)) (fun _ _ _ _ _ => pg_name (i := 7) nd rfl (Or.inl rfl)) (fun _ _ _ _ _ => pts_nil) (fun _ _ _ _ _ => (pe_tup (pa_cons (pe_op op_add pe_int (pe_op op_mul pe_int (pv 7))) (pa_cons pe_str (pa_cons pe_int pa_nil)))))) pa_nil)))
      (pss_cons (ps_if (pt_not (pt_val (by exact (pe_callG G__law_same gu hr__law_same rfl T.m__law_same T.k__law_same T.b__law_same .nil pass0 (pa_cons (pe_call G_load hr_load rfl T.m_load T.k_load T.b_load .nil pass0 (pa_cons (pe_tup (pa_cons pe_int (pa_cons pe_int (pa_cons pe_int (pa_cons (pe_callTy call_tuple_of (by rfl) T.z_tuple (by decide +kernel) (pa_cons (pv 3) pa_nil)) pa_nil))))) pa_nil)) (pa_cons (pe_tup (pa_cons (pv 4) (pa_cons pe_int (pa_cons pe_int (pa_cons pe_int (pa_cons pe_int (pa_cons (pv 5) pa_nil))))))) pa_nil)))))) (pss_one (ps_ret pe_bl)) pss_nil)
      (pss_cons (ps_set (i := 6) nd rfl (Or.inl rfl) (pe_lst pa_nil))
      (pss_cons (ps_for PassesOwn.never rfl (pi_range1 (by rfl) T.z_range (pa_cons pe_int pa_nil)) (pg_name (i := 7) nd rfl (Or.inr rfl))
      (pss_cons (ps_set (i := 6) nd rfl (Or.inl rfl) (pe_op op_cat (pe_op op_cat (pv 6) (pe_lc (own := [("_law_i", 9)]) (g := gName 9) (tt := tYes) (by rfl) nd (pi_range1 (by rfl) T.z_range (pa_cons pe_int pa_nil)) (blkOk_by (own := [("_law_i", 9)]) (N := sl__law_is_far_right) (sc := defScope s__law_is_far_right) (by decide +kernel)) (fun _ _ _ _ _ => pg_name (i := 9) nd rfl (Or.inl rfl)) (fun _ _ _ _ _ => pts_nil) (fun _ _ _ _ _ => (pe_tup (pa_cons (pe_op op_add (pe_op op_mul pe_int (pv 7)) (pe_op op_mul pe_int (pv 9))) (pa_cons (pe_tup (pa_cons pe_str (pa_cons pe_int (pa_cons pe_int pa_nil)))) pa_nil)))))) (pe_lst (pa_cons (pe_tup (pa_cons (pe_op op_add (pe_op op_mul pe_int (pv 7)) pe_int) (pa_cons (pe_tup (pa_cons pe_str pa_nil)) pa_nil))) pa_nil))))
      (pss_one (ps_asg (pe_tup (pa_cons pe_str (pa_cons (pe_op op_mul pe_int (pv 7)) pa_nil))) (pg_sub (pv 2) (pv 7) set_list)))))
      (pss_cons (ps_asg (pe_tup (pa_cons pe_str (pa_cons pe_int pa_nil))) (pg_sub (pv 2) pe_int set_list))
      (pss_cons (ps_set (i := 6) nd rfl (Or.inl rfl) (pe_op op_cat (pv 6) (pe_lc (own := [("_law_k", 7)]) (g := gName 7) (tt := tYes) (by rfl) nd (pi_range1 (by rfl) T.z_range (pa_cons pe_int pa_nil)) (blkOk_by (own := [("_law_k", 7)]) (N := sl__law_is_far_right) (sc := defScope s__law_is_far_right) (by decide +kernel)) (fun _ _ _ _ _ => pg_name (i := 7) nd rfl (Or.inl rfl)) (fun _ _ _ _ _ => pts_nil) (fun _ _ _ _ _ => (pe_tup (pa_cons (pe_op op_add pe_int (pe_op op_mul pe_int (pv 7))) (pa_cons (pe_ix (ix_listK (K := K) rfl) (pv 2) (pv 7) (fun _ _ => rfl)) pa_nil)))))))
      (pss_cons (ps_set (i := 6) nd rfl (Or.inl rfl) (pe_op op_cat (pe_op op_cat (pv 6) (pe_lc (own := [("_law_k", 7)]) (g := gName 7) (tt := tYes) (by rfl) nd (pi_range1 (by rfl) T.z_range (pa_cons pe_int pa_nil)) (blkOk_by (own := [("_law_k", 7)]) (N := sl__law_is_far_right) (sc := defScope s__law_is_far_right) (by decide +kernel)) (fun _ _ _ _ _ => pg_name (i := 7) nd rfl (Or.inl rfl)) (fun _ _ _ _ _ => pts_nil) (fun _ _ _ _ _ => (pe_tup (pa_cons (pe_op op_add pe_int (pv 7)) (pa_cons (pe_tup (pa_cons pe_str pa_nil)) pa_nil)))))) (pe_lst (pa_cons (pe_tup (pa_cons pe_int (pa_cons (pe_tup (pa_cons pe_str (pa_cons pe_int pa_nil))) pa_nil))) pa_nil))))
      (pss_one (ps_ret (by exact (pe_callG G__law_same gu hr__law_same rfl T.m__law_same T.k__law_same T.b__law_same .nil pass0 (pa_cons (pe_call G_rows_in hr_rows_in rfl T.m_rows_in T.k_rows_in T.b_rows_in .nil pass0 (pa_cons (pv 4) pa_nil)) (pa_cons (pe_callTy call_tuple_of (by rfl) T.z_tuple (by decide +kernel) (pa_cons (pv 6) pa_nil)) pa_nil))))))))))))))))))), ?_⟩
  have s1 : sml 1 := by unfold sml; omega
  have s0 : sml 0 := by unfold sml; omega
  refine goTL (K := K) (d := .tuple (List.replicate (500 : Int).toNat (.tuple [.str "number", .int 0, .int 1]) ++ [.tuple [.str "back"]])) (ds := namesF.map PyData.str)
    (ev_catB (ev_rep (ev_tup (ea_cons (ev_tup (ea_cons ev_str (ea_cons ev_int (ea_cons ev_int ea_nil))) (by simp)) ea_nil) (by simp)) (by decide) (by decide)) (ev_tup (ea_cons (ev_tup (ea_cons ev_str ea_nil) (by simp)) ea_nil) (by simp)) (by simp) (by simp))
    (ea_cons ev_str (ea_cons ev_str (ea_cons ev_str (ea_cons ev_str (ea_cons ev_str ea_nil))))) (by decide) rfl fun v0 na nxs H1 e1 hna0 hna hnx hv0 => ?_
  rw [← nums_d] at hv0
  obtain rfl := strs_ofD hnx
  refine ⟨_, _, rfl, _, _, rfl, rfl, ?_⟩
  dsimp only
  -- the calls
  refine goOp ?_
  refine lcN (K := K) (l := na) (names := namesF) (f := callF) (a := 0) rfl (SqL.of hna) hna (by decide) (fun _ => rfl) (fun _ => rfl) (fun s hs => ee_tup hna (eb_cons ee_str (eb_cons (ee_var rfl (.str _)) (eb_cons ee_int eb_nil))) (by simp)) fun pa xa H2 e2 hpa epa dpa => ?_
  have hna2 := e2 _ _ hna
  refine lsE (K := K) (l := na) (ds := [.tuple [.str "call", .str "z", .int 7], .tuple [.str "back"]]) hna2 (eb_cons (ee_tup hna2 (eb_cons ee_str (eb_cons ee_str (eb_cons ee_int eb_nil))) (by simp)) (eb_cons (ee_tup hna2 (eb_cons ee_str eb_nil) (by simp)) eb_nil)) (by simp) rfl fun pb xb H3 e3 hpb epb dpb => ?_
  refine catE (K := K) (l := na) (e3 _ _ epa) epb (dpAll_same (same_del na e3) dpa) dpb (by decide) fun pc H4 e4 hpc epc dpc => ?_
  rw [calls_d] at dpc
  have e14 := (e2.trans e3).trans e4
  have hna4 := e14 _ _ hna
  have hv04 := dp_same (same_del na e14) hv0
  generalize xa ++ xb = cxs at epc dpc
  have ncn : pc ≠ na := fun z => by rw [z, (e2.trans e3) _ _ hna] at hpc; cases hpc
  -- the functions
  dsimp only [gName]
  refine goOp ?_
  refine lcN (K := K) (l := na) (names := namesF) (f := fnF) (a := 0) rfl (SqL.of hna4) hna4 (by decide) fnF_noL (fun _ => rfl) (fun s hs => ee_tup hna4 (eb_cons (ee_var rfl (.str _)) (eb_cons ee_int (eb_cons (ee_var rfl hv04) eb_nil))) (by simp)) fun pd xd H5 e5 hpd epd dpd => ?_
  have hna5 := e5 _ _ hna4
  have epc5 := e5 _ _ epc
  have dpc5 := dpAll_same (same_del na e5) dpc
  -- [('main', 0, tuple(calls))]
  refine ⟨_, rfl, pc, _, rfl, .inl ⟨SqL.of epc5, fun t1 ht1 => ?_⟩⟩
  have s6 := same_new ht1 (.tup cxs)
  have nt1 : t1 ≠ na := fun z => by rw [z, hna5] at ht1; cases ht1
  have dt1 : Dp K (del (upd H5 t1 (.tup cxs)) na) (.ref t1) (.tuple (callsR.map Ro.d)) := .tup (.inl (.inl (by rw [del_ne nt1, upd_same]))) (dpAll_same (same_del na s6) dpc5)
  generalize upd H5 t1 (.tup cxs) = H6 at s6 dt1 ⊢
  refine ⟨(by show 3 ≤ sizeLine; decide), fun t2 ht2 => ?_⟩
  have s7 := same_new ht2 (.tup [.str "main", .int 0, .ref t1])
  have hna6 := s6 _ _ hna5
  have nt2 : t2 ≠ na := fun z => by rw [z, hna6] at ht2; cases ht2
  have dt2 : Dp K (del (upd H6 t2 (.tup [.str "main", .int 0, .ref t1])) na) (.ref t2) (.tuple [.str "main", .int 0, .tuple (callsR.map Ro.d)]) := .tup (.inl (.inl (by rw [del_ne nt2, upd_same]))) (.cons (.str _) (.cons (.int _) (.cons (dp_same (same_del na s7) dt1) .nil)))
  generalize upd H6 t2 (.tup [.str "main", .int 0, .ref t1]) = H7 at s7 dt2 ⊢
  refine ⟨(by show 1 ≤ sizeLine; decide), fun pe hpe => ?_⟩
  have s8 := same_new hpe (.lst [.ref t2])
  have epe : (upd H7 pe (.lst [.ref t2])) pe = some (.lst [.ref t2]) := upd_same
  have dpe : DpAll K (del (upd H7 pe (.lst [.ref t2])) na) [.ref t2] [.tuple [.str "main", .int 0, .tuple (callsR.map Ro.d)]] := .cons (dp_same (same_del na s8) dt2) .nil
  have s58 := (s6.trans s7).trans s8
  generalize upd H7 pe (.lst [.ref t2]) = H8 at epe dpe s58 ⊢
  refine catE (K := K) (l := na) (s58 _ _ epd) epe (dpAll_same (same_del na s58) dpd) dpe (by simp [namesF]) fun pf H9 e9 hpf epf dpf => ?_
  have s59 := s58.trans e9
  have hna9 := s59 _ _ hna5
  have epc9 := s59 _ _ epc5
  have dpc9 := dpAll_same (same_del na s59) dpc5
  generalize xd ++ [V.ref t2] = fxs at epf dpf
  have nfn : pf ≠ na := fun z => by rw [z, s58 _ _ hna5] at hpf; cases hpf
  have nfc : pf ≠ pc := fun z => by rw [z, s58 _ _ epc5] at hpf; cases hpf
  have noLf : noLs (namesF.map fnF ++ [.tuple [.str "main", .int 0, .tuple (callsR.map Ro.d)]]) = true := by
    rw [noLs_app]
    have h1 : noLs (namesF.map fnF) = true := by
      show (noL (fnF "a0") && (noL (fnF "a1") && (noL (fnF "a2") && (noL (fnF "a3") && (noL (fnF "a4") && true))))) = true
      rw [fnF_noL, fnF_noL, fnF_noL, fnF_noL, fnF_noL]; rfl
    rw [h1]; rfl
  have dpf' : DpAll K (del H9 pf) fxs (namesF.map fnF ++ [.tuple [.str "main", .int 0, .tuple (callsR.map Ro.d)]]) := dpAll_off epf noLf (dpAll_same (del_le H9 na) dpf)
  have epf9 := epf
  dsimp only [gName]
  -- append
  refine goA (K := K) (d := .tuple [.str "z", .int 0, rowsD zR]) rfl epf9 (by rw [dp_len dpf']; simp [namesF]) ?_ fun y Q1 g1 hy => ?_
  · rw [z_d]
    exact ee_tup epf9 (eb_cons ee_str (eb_cons ee_int (eb_cons (ee_cat epf9 (ee_rep epf9 (ee_tup epf9 (eb_cons (ee_tup epf9 (eb_cons ee_str eb_nil) (by simp)) eb_nil) (by simp)) (by decide) (by decide)) (ee_tup epf9 (eb_cons (ee_tup epf9 (eb_cons ee_str (eb_cons ee_int eb_nil)) (by simp)) eb_nil) (by simp)) (by simp) (by simp)) eb_nil))) (by simp)
  have sHb : Same H (upd Q1 pf (.lst (fxs ++ [y]))) := same_mut (((e1.trans e14).trans e5).trans (s59.trans g1)) (none_of (((e1.trans e14).trans e5).trans s58) hpf)
  have epF : (upd Q1 pf (.lst (fxs ++ [y]))) pf = some (.lst (fxs ++ [y])) := upd_same
  have dpF : DpAll K (del (upd Q1 pf (.lst (fxs ++ [y]))) pf) (fxs ++ [y]) (farF.map fnD) := by
    rw [del_upd, ← fns_d]
    exact dpAll_app (dpAll_same (same_del pf g1) dpf') hy
  have epC : (upd Q1 pf (.lst (fxs ++ [y]))) pc = some (.lst cxs) := by rw [upd_ne (Ne.symm nfc)]; exact g1 _ _ epc9
  have dpC : DpAll K (del (upd Q1 pf (.lst (fxs ++ [y]))) pf) cxs (callsR.map Ro.d) := by
    rw [del_upd]
    exact dpAll_off (g1 _ _ epf9) (noLs_ro _) (dpAll_same ((del_le H9 na).trans g1) dpc9)
  have hpc0 : H pc = none := none_of ((e1.trans e2).trans e3) hpc
  generalize upd Q1 pf (.lst (fxs ++ [y])) = Hb at sHb epF dpF epC dpC ⊢
  generalize fxs ++ [y] = fys at epF dpF
  -- the words
  refine goD (K := K) (d := .tuple ((List.replicate (5 : Int).toNat ((List.replicate (500 : Int).toNat [PyData.int 4096, .int 1]).flatten ++ [.int 256])).flatten ++ [.int 61440, .int 0, .int 61440, .int 1001, .int 61440, .int 2002, .int 61440, .int 3003, .int 61440, .int 4004]))
    (ev_catB (ev_repB (ev_catB (ev_repB (ev_tup (ea_cons ev_int (ea_cons ev_int ea_nil)) (by simp)) (by simp) (by simp) (by decide) (by decide)) (ev_tup (ea_cons ev_int ea_nil) (by simp)) (by decide +kernel) (by simp)) (by decide +kernel) (by decide +kernel) (by decide) (by decide)) (ev_tup (ea_cons ev_int (ea_cons ev_int (ea_cons ev_int (ea_cons ev_int (ea_cons ev_int (ea_cons ev_int (ea_cons ev_int (ea_cons ev_int (ea_cons ev_int (ea_cons ev_int ea_nil)))))))))) (by simp)) (by decide +kernel) (by simp)) fun w1 J1 f1 hw1 => ?_
  dsimp only [gName]
  refine goD (K := K) (d := .tuple ((((List.replicate (5 : Int).toNat ((List.replicate (500 : Int).toNat [PyData.int 4096, .int 1]).flatten ++ [.int 256])).flatten ++ [.int 61440, .int 0, .int 61440, .int 1001, .int 61440, .int 2002, .int 61440, .int 3003, .int 61440, .int 4004]) ++ [.int 61440, .int 5018, .int 256]) ++ List.replicate (9 : Int).toNat (.int 0) ++ [.int 49152, .int 5018]))
    (ev_catB (ev_catB (ev_catB (ev_var rfl hw1) (ev_tup (ea_cons ev_int (ea_cons ev_int (ea_cons ev_int ea_nil))) (by simp)) (by decide +kernel) (by simp)) (ev_rep (ev_tup (ea_cons ev_int ea_nil) (by simp)) (by decide) (by decide)) (by decide +kernel) (by simp)) (ev_tup (ea_cons ev_int (ea_cons ev_int ea_nil)) (by simp)) (by decide +kernel) (by simp)) fun w2 J2 f2 hw2 => ?_
  rw [← words_d] at hw2
  clear hw1
  have epF2 := (f1.trans f2) _ _ epF
  have dpF2 := dpAll_same (same_del pf (f1.trans f2)) dpF
  dsimp only [gName]
  -- the places
  refine goCB1 ?_
  refine lcR (K := K) (l := pf) (n := 6) (f := callD) epF2 (by decide) (fun _ => rfl) (fun _ => rfl) (fun i hi => by rw [callD0]; exact ee_tup epF2 (eb_cons (ee_add ee_int (ee_mul ee_int (ee_intv rfl) (.inl ⟨by decide, by decide⟩))) (eb_cons ee_str (eb_cons ee_int eb_nil))) (by simp)) fun pq xq J3 f3 hpq epq dpq => ?_
  have epF3 := f3 _ _ epF2
  have dpF3 := dpAll_same (same_del pf f3) dpF2
  refine ⟨pq, _, rfl, .inl ⟨SqL.of epq, fun t5 ht5 => ?_⟩⟩
  have s5 := same_new ht5 (.tup xq)
  have dt5 : Dp K (upd J3 t5 (.tup xq)) (.ref t5) (.tuple placesF) := .tup (SqT.of upd_same) (dpAll_same ((del_le J3 pf).trans s5) dpq)
  generalize upd J3 t5 (.tup xq) = J4 at s5 dt5 ⊢
  have f34 := f3.trans s5
  have epF4 := s5 _ _ epF3
  have dpF4 := dpAll_same (same_del pf s5) dpF3
  have hw4 := dp_same f34 hw2
  dsimp only [gName]
  -- load and compare
  refine ⟨_, rfl, pf, _, rfl, .inl ⟨SqL.of epF4, fun t6 ht6 => ?_⟩⟩
  have s6' := same_new ht6 (.tup fys)
  have dt6 : Dp K (upd J4 t6 (.tup fys)) (.ref t6) (.tuple (farF.map fnD)) := .tup (SqT.of upd_same) (dpAll_same ((del_le J4 pf).trans s6') dpF4)
  generalize upd J4 t6 (.tup fys) = J5 at s6' dt6 ⊢
  refine ⟨(by show 4 ≤ sizeLine; decide), fun t7 ht7 => ?_⟩
  have s7' := same_new ht7 (.tup [.int 1, .int 0, .int 0, .ref t6])
  have dt7 : Dp K (upd J5 t7 (.tup [.int 1, .int 0, .int 0, .ref t6])) (.ref t7) (linkedD 1 0 0 farF) := .tup (SqT.of upd_same) (.cons (.int _) (.cons (.int _) (.cons (.int _) (.cons (dp_same s7' dt6) .nil))))
  generalize upd J5 t7 (.tup [.int 1, .int 0, .int 0, .ref t6]) = J6 at s7' dt7 ⊢
  refine ⟨.ref t7, 1, 0, 0, farF, rfl, dt7, far_wf, fun z J7 f7 hz => ?_⟩
  have f47 := (s6'.trans s7').trans f7
  refine ⟨_, rfl, _, rfl, (by show 6 ≤ sizeLine; decide), fun t8 ht8 => ?_⟩
  have s8' := same_new ht8 (.tup [w2, .int 5005, .int 1, .int 0, .int 0, .ref t5])
  have hw8 := dp_same (f47.trans s8') hw4
  have dt8 : Dp K (upd J7 t8 (.tup [w2, .int 5005, .int 1, .int 0, .int 0, .ref t5])) (.ref t8) (imageD 1 0 0 farF) := by
    rw [image_far]
    exact .tup (SqT.of upd_same) (.cons hw8 (.cons (.int _) (.cons (.int _) (.cons (.int _) (.cons (.int _) (.cons (dp_same (f47.trans s8') dt5) .nil))))))
  have hz8 := dp_same s8' hz
  generalize upd J7 t8 (.tup [w2, .int 5005, .int 1, .int 0, .int 0, .ref t5]) = J8 at s8' hw8 dt8 hz8 ⊢
  have himg := image_rp far_wf s1 s0 s0
  refine ⟨z, .ref t8, imageD 1 0 0 farF, rfl, hz8, dt8, ⟨rfl, himg.1, Nat.le_trans himg.2.1 (by decide), Nat.le_trans himg.2.2 (by decide)⟩, _, rfl, ?_⟩
  refine iteF ?_
  have fb8 := ((f1.trans f2).trans f34).trans (f47.trans s8')
  have epC8 := fb8 _ _ epC
  have dpC8 : DpAll K (del J8 pc) cxs (callsR.map Ro.d) := dpAll_off epC8 (noLs_ro _) (dpAll_same ((del_le Hb pf).trans fb8) dpC)
  have sH8 := sHb.trans fb8
  refine next_go ?_
  dsimp only
  refine ⟨(by show 0 ≤ sizeLine; decide), fun p0 hp0 => ?_⟩
  have np0 : p0 ≠ pc := fun z => by rw [z, epC8] at hp0; cases hp0
  dsimp only [gName]
  refine ⟨(5 : Int), rfl, by decide, by decide, ?_⟩
  refine for_range (lo := 0) (n := (5 : Int).toNat) (fun i σ H' => ∃ (o7 : Option V) (pd : Addr) (dvs cvs : List V), σ = [some v0, some (.ref na), some (.ref pc), some (.ref pf), some w2, some (.ref t5), some (.ref pd), o7, none, none] ∧ Same (del J8 pc) (del H' pc) ∧ H' pd = some (.lst dvs) ∧ DpAll K (del H' pc) dvs (dueTo i) ∧ H' pc = some (.lst cvs) ∧ DpAll K (del H' pc) cvs (crTo i)) ?_ ?_ ?_
  · exact ⟨none, p0, [], cxs, rfl, same_del pc (same_new hp0 _), upd_same, .nil, same_new hp0 _ _ _ epC8, by rw [crTo_zero]; exact dpAll_same (same_del pc (same_new hp0 _)) dpC8⟩
  · rintro i σ L0 hi ⟨o7, pd, dvs, cvs, rfl, eL, epd, dpd', epc', dpc'⟩
    have hi5 : i < 5 := by have : (5 : Int).toNat = 5 := rfl; omega
    have hdl := dueTo_len i
    refine goOp ?_
    refine opIn ?_
    refine varIn rfl ?_
    refine lcR (K := K) (l := pc) (n := 500) (f := numD i) epc' (by decide) (fun _ => rfl) (fun _ => rfl) (fun j hj => by rw [numD0]; exact ee_tup epc' (eb_cons (ee_add (ee_mul ee_int (ee_intv rfl) (.inl ⟨by decide, by decide⟩)) (ee_mul ee_int (ee_intv rfl) (.inl ⟨by decide, by decide⟩))) (eb_cons (ee_tup epc' (eb_cons ee_str (eb_cons ee_int (eb_cons ee_int eb_nil))) (by simp)) eb_nil)) (by simp)) fun q1 x1 L1 l1 hq1 eq1 dq1 => ?_
    have epc1 := l1 _ _ epc'
    refine catE (K := K) (l := pc) (l1 _ _ epd) eq1 (dpAll_same (same_del pc l1) dpd') dq1 (by rw [hdl, List.length_map, List.length_range]; omega) fun q2 L2' l2 hq2 eq2 dq2 => ?_
    have epc2 := l2 _ _ epc1
    refine lsE (K := K) (l := pc) (ds := [.tuple [.int (1001 * ((0 : Int) + (i : Nat)) + 1000), .tuple [.str "back"]]]) epc2 (eb_cons (ee_tup epc2 (eb_cons (ee_add (ee_mul ee_int (ee_intv rfl) (.inl ⟨by decide, by decide⟩)) ee_int) (eb_cons (ee_tup epc2 (eb_cons ee_str eb_nil) (by simp)) eb_nil)) (by simp)) eb_nil) (by simp) rfl fun q3 x3 L3 l3 hq3 eq3 dq3 => ?_
    have epc3 := l3 _ _ epc2
    refine catE (K := K) (l := pc) (l3 _ _ eq2) eq3 (dpAll_same (same_del pc l3) dq2) dq3 (by rw [List.length_append, hdl, List.length_map, List.length_range]; simp only [List.length_cons, List.length_nil]; omega) fun q4 L4 l4 hq4 eq4 dq4 => ?_
    rw [← backN0, ← dueTo_succ] at dq4
    have epc4 := l4 _ _ epc3
    have l14 := ((l1.trans l2).trans l3).trans l4
    have dpc4 := dpAll_same (same_del pc l14) dpc'
    have n4 : q4 ≠ pc := fun z => by rw [z, epc3] at hq4; cases hq4
    dsimp only [gName]
    refine asgE (K := K) (l := pc) (d := .tuple [.str "call", .int (1001 * ((0 : Int) + (i : Nat)))]) (ee_tup epc4 (eb_cons ee_str (eb_cons (ee_mul ee_int (ee_intv rfl) (.inl ⟨by decide, by decide⟩)) eb_nil)) (by simp)) fun z5 L5 l5 hz5 => ?_
    have epc5' := l5 _ _ epc4
    have cl : cvs.length = 7 := by rw [dp_len dpc']; exact crTo_len i (by omega)
    refine ⟨_, rfl, _, rfl, pc, cvs, _, i, rfl, rfl, epc5', by rw [cl]; exact ixN_n (by omega), ?_⟩
    refine ⟨some (.int ((0 : Int) + (i : Nat))), q4, (dvs ++ x1) ++ x3, cvs.set i z5, rfl, ?_, ?_, ?_, upd_same, ?_⟩
    · rw [del_upd]; exact eL.trans (same_del pc (l14.trans l5))
    · rw [upd_ne n4]; exact l5 _ _ eq4
    · rw [del_upd]; exact dpAll_same (same_del pc l5) dq4
    · rw [del_upd, ← crTo_set hi5]
      exact dpAll_set (dpAll_same (same_del pc l5) dpc4) hz5
  · rintro σ L0 ⟨o7, pd, dvs, cvs, rfl, eL, epd, dpd', epc', dpc'⟩
    have h5 : (5 : Int).toNat = 5 := rfl
    rw [h5] at dpd' dpc'
    have cl : cvs.length = 7 := by rw [dp_len dpc']; exact crTo_len 5 (by omega)
    have npd : pd ≠ pc := fun z => by
      rw [z, epc'] at epd
      obtain rfl := HO.lst.inj (Option.some.inj epd)
      have := dp_len dpd'
      rw [dueTo_len, cl] at this
      omega
    dsimp only
    refine goEg (K := K) (l := pc) (d := .tuple [.str "call", .int 5018]) (ee_tup epc' (eb_cons ee_str (eb_cons ee_int eb_nil)) (by simp)) fun z1 L1 l1 hz1 => ?_
    refine ⟨_, rfl, pc, cvs, 5, 5, rfl, rfl, l1 _ _ epc', by rw [cl]; exact ixN_n (n := 7) (i := 5) (by decide), ?_⟩
    have epc1 : (upd L1 pc (.lst (cvs.set 5 z1))) pc = some (.lst (cvs.set 5 z1)) := upd_same
    have dpc1 : DpAll K (del (upd L1 pc (.lst (cvs.set 5 z1))) pc) (cvs.set 5 z1) crD := by
      rw [del_upd, ← crTo_five]
      exact dpAll_set (dpAll_same (same_del pc l1) dpc') hz1
    have epd1 : (upd L1 pc (.lst (cvs.set 5 z1))) pd = some (.lst dvs) := by rw [upd_ne npd]; exact l1 _ _ epd
    have dpd1 : DpAll K (del (upd L1 pc (.lst (cvs.set 5 z1))) pc) dvs (dueTo 5) := by rw [del_upd]; exact dpAll_same (same_del pc l1) dpd'
    have eL1 : Same (del J8 pc) (del (upd L1 pc (.lst (cvs.set 5 z1))) pc) := by rw [del_upd]; exact eL.trans (same_del pc l1)
    generalize upd L1 pc (.lst (cvs.set 5 z1)) = L2' at epc1 dpc1 epd1 dpd1 eL1 ⊢
    generalize cvs.set 5 z1 = cvs2 at epc1 dpc1
    have hdl := dueTo_len 5
    -- the calls' rows
    refine goOp ?_
    refine varIn rfl ?_
    refine lcR (K := K) (l := pc) (n := 7) (f := crdD) epc1 (by decide) crdD_noL (fun _ => rfl) (fun j hj => by
      obtain ⟨x, hx, hxd⟩ := dp_nth dpc1 (i := j) (by show j < 7; exact hj)
      have hxd' : Dp K (del L2' pc) x (crD.getD j .none) := by
        rw [List.getD_eq_getElem?_getD, List.getElem?_eq_getElem (show j < crD.length from hj)]
        exact hxd
      rw [crdD0]
      exact ee_tup epc1 (eb_cons (ee_add ee_int (ee_mul ee_int (ee_intv rfl) (.inl ⟨by decide, by decide⟩))) (eb_cons (ee_ixL rfl rfl epc1 hx hxd') eb_nil)) (by simp)) fun q1 x1 L3 l3 hq1 eq1 dq1 => ?_
    have epc3 := l3 _ _ epc1
    refine catE (K := K) (l := pc) (l3 _ _ epd1) eq1 (dpAll_same (same_del pc l3) dpd1) dq1 (by rw [hdl, List.length_map, List.length_range]; decide) fun q2 L4 l4 hq2 eq2 dq2 => ?_
    have epc4 := l4 _ _ epc3
    dsimp only [gName]
    -- the beats
    refine goOp ?_
    refine opIn ?_
    refine varIn rfl ?_
    refine lcR (K := K) (l := pc) (n := 9) (f := beatD) epc4 (by decide) (fun _ => rfl) (fun _ => rfl) (fun j hj => by rw [beatD0]; exact ee_tup epc4 (eb_cons (ee_add ee_int (ee_intv rfl)) (eb_cons (ee_tup epc4 (eb_cons ee_str eb_nil) (by simp)) eb_nil)) (by simp)) fun q5 x5 L5 l5 hq5 eq5 dq5 => ?_
    have epc5' := l5 _ _ epc4
    refine catE (K := K) (l := pc) (l5 _ _ eq2) eq5 (dpAll_same (same_del pc l5) dq2) dq5 (by rw [List.length_append, hdl, List.length_map, List.length_range, List.length_map, List.length_range]; decide) fun q6 L6 l6 hq6 eq6 dq6 => ?_
    have epc6 := l6 _ _ epc5'
    refine lsE (K := K) (l := pc) (ds := [.tuple [.int 5027, .tuple [.str "jump", .int 5018]]]) epc6 (eb_cons (ee_tup epc6 (eb_cons ee_int (eb_cons (ee_tup epc6 (eb_cons ee_str (eb_cons ee_int eb_nil)) (by simp)) eb_nil)) (by simp)) eb_nil) (by simp) rfl fun q7 x7 L7 l7 hq7 eq7 dq7 => ?_
    refine catE (K := K) (l := pc) (l7 _ _ eq6) eq7 (dpAll_same (same_del pc l7) dq6) dq7 (by rw [List.length_append, List.length_append, hdl, List.length_map, List.length_range, List.length_map, List.length_range]; decide) fun q8 L8 l8 hq8 eq8 dq8 => ?_
    have hdue : dueTo 5 ++ (List.range 7).map crdD ++ (List.range 9).map beatD ++ [.tuple [.int 5027, .tuple [.str "jump", .int 5018]]] = dueD := by
      unfold dueD
      rw [List.append_assoc (dueTo 5 ++ (List.range 7).map crdD)]
    rw [hdue] at dq8
    have l28 := ((((l3.trans l4).trans l5).trans l6).trans l7).trans l8
    dsimp only [gName]
    have hw9 : Dp K L8 w2 (.tuple (farWords.map .int)) := by
      have h0 : Dp K (del J8 pc) w2 (.tuple (farWords.map .int)) := dp_off epC8 (words_noL _) hw8
      exact dp_same (((eL1.trans (same_del pc l28))).trans (del_le L8 pc)) h0
    obtain ⟨wa, wxs, rfl, hwa, hwx⟩ := tup_of hw9
    have hwi : wxs = iV farWords := ints_of hwx
    have hbk := back_rp far_wf
    refine ⟨_, rfl, wa, allE farF, rfl, (by rw [far_words, ← hwi]; exact hwa), chain_all _ _ (Nat.le_refl _), all_ok far_wf, ?_, fun y2 L9 l9 hy2 => ?_⟩
    · have := allTo_le far_wf farF.length (Nat.le_refl _)
      exact Nat.le_trans this (by decide)
    refine ⟨_, rfl, q8, _, rfl, .inl ⟨SqL.of (l9 _ _ eq8), fun t9 ht9 => ?_⟩⟩
    have s9' := same_new ht9 (.tup (((dvs ++ x1) ++ x5) ++ x7))
    have dt9 : Dp K (upd L9 t9 (.tup (((dvs ++ x1) ++ x5) ++ x7))) (.ref t9) (backD (allE farF)) := by
      unfold backD
      rw [far_back]
      exact .tup (SqT.of upd_same) (dpAll_same (((del_le L8 pc).trans l9).trans s9') dq8)
    refine ⟨y2, .ref t9, backD (allE farF), rfl, dp_same s9' hy2, dt9, ⟨rfl, hbk.1, Nat.le_trans hbk.2.1 (by decide), Nat.le_trans hbk.2.2 (by decide)⟩, ?_⟩
    refine k _ ?_
    exact (same_off sH8 hpc0).trans ((eL1.trans (same_del pc l28)).trans ((del_le L8 pc).trans (l9.trans s9')))
end
end Lk

set_option Elab.async false
set_option linter.all false
set_option maxRecDepth 100000
set_option pp.maxSteps 1500
set_option maxHeartbeats 4000000
namespace Lk
open PySem PySem.Spec PyProof.Rows L2
section
variable {X : Cx} {CX : CXT} {k : Nat} {f : Addr} {fd : FuncData} {ps : List Str} {sp : Sp} {E : XK} {x : Str} {p pos : Pos} {ds : List Value} {dvs : List V}
theorem pe_callG0 (F : FnG X.prog X.w X.K X.mg X.base CX k f fd ps sp) (gu : X.A.guards = some []) (hr : Room k X.A) (hg : Gl X x) (hm : X.mg x = some (.ref f)) (hk : PySem.W.keepIn X.K (.ref f) = true) (hb : Binds X.K fd ps ds) (hd : Vals dvs ds) (hx : Passes CX X E)
    (hdb : (x == ("__debug__" : Str)) = false := by decide) : PE X (.Call (.Name x p) [] [] pos) (tCall sp dvs E tNil) :=
  ⟨fun _ _ _ _ _ I h => wpAny_Call_Name_kw (ld_glob I hg hm (PySem.W.callWith_K0 I.kIn hk (run_fnG (us := []) F gu hr hb hd hx I .nil h)) hdb)⟩
end
theorem image_inv {K : PySem.W.Frag} {H : Hp} {z : V} {n tk g : Int} {fs : List (Str × List Ro)} (h : Dp K H z (imageD n tk g fs)) : ∃ (a wa : Addr) (xs : List V), z = .ref a ∧ SqT K H a (.ref wa :: xs) ∧ SqT K H wa (iV (wordsE (allE fs))) := by
  obtain ⟨a, xs, rfl, ha, hx⟩ := tup_of h
  cases hx with
  | cons b r =>
    obtain ⟨wa, ws, rfl, hwa, hwx⟩ := tup_of b
    rw [ints_of hwx] at hwa
    exact ⟨a, wa, _, rfl, ha, hwa⟩
def spLaw (K : PySem.W.Frag) : Sp := fun vs H Q _ => ∃ (a : Addr) (ns : List Int), vs = [.ref a] ∧ SqL K H a (iV ns) ∧ ns.length ≤ 63 ∧ ∀ H', Q (.bl true) H'
section
variable {P : Program} {w : World} {K : PySem.W.Frag} {mg : Str → Option Value} {base : Heap}
theorem ok_law (T : Txt K mg) : FnG P w K mg base CX0 8 T.f_law T.d_law ["_law_script"] (spLaw K) := by
  have nd := sc_law.nd
  refine okG T.F_law sc_law (fun vs H Q E h => ?_) (fun cdv A outer s H vs Q E gu0 hr h => ?_)
  · obtain ⟨a, ns, rfl, _⟩ := h
    rfl
  obtain ⟨a, ns, rfl, hS, h63, k⟩ := h
  have gu : (A.deeper (envOfC "law" (defScope s_law) s.heap.objs.size T.f_law cdv)).guards = some [] := gu0
  have hu2 : (A.deeper (envOfC "law" (defScope s_law) s.heap.objs.size T.f_law cdv)).units + 200 < cLine := by have := hr.un; omega
  have G__law_feed : FnOk P w K mg base CX0 1 _ _ _ (spFeed K) := ok_feed T
  have hr__law_feed : Room 1 _ := hr.mono (by omega)
  have G__law_draw : FnOk P w K mg base CX0 1 _ _ _ (spTake K) := ok_draw T
  have hr__law_draw : Room 1 _ := hr.mono (by omega)
  have G__law_linked : FnOk P w K mg base CX0 5 _ _ _ (spLinked K) := ok_linked T
  have hr__law_linked : Room 5 _ := hr.mono (by omega)
  have G__law_loaded : FnOk P w K mg base CX0 4 _ _ _ (spLoaded K) := ok_loaded T
  have hr__law_loaded : Room 4 _ := hr.mono (by omega)
  have G_load : FnOk P w K mg base CX0 6 _ _ _ (spLoad K) := ok_load T
  have hr_load : Room 6 _ := hr.mono (by omega)
  have G_rows_in : FnOk P w K mg base CX0 3 _ _ _ (spRowsIn K) := ok_rows_in T
  have hr_rows_in : Room 3 _ := hr.mono (by omega)
  have G__law_same : FnG P w K mg base CX0 1 _ _ _ (spSame K) := ok_same T
  have hr__law_same : Room 1 _ := hr.mono (by omega)
  have G__law_is_far_right : FnG P w K mg base CX0 7 _ _ _ spTrue := ok_far_right T
  have hr__law_is_far_right : Room 7 _ := hr
  have G__law_are_few_right : FnG P w K mg base CX0 7 _ _ _ spTrue := ok_few_right T
  have hr__law_are_few_right : Room 7 _ := hr
  refine ⟨_, (pss_cons (ps_set (i := 1) nd rfl (Or.inl rfl) (pe_call G__law_feed hr__law_feed rfl T.m__law_feed T.k__law_feed T.b__law_feed .nil pass0 (pa_cons (pv 0) pa_nil)))
      (pss_cons (ps_for PassesOwn.never rfl (pi_range1 (by rfl) T.z_range (pa_cons pe_int pa_nil)) (pg_name (i := 2) nd rfl (Or.inl rfl))
      (pss_cons (ps_set (i := 3) nd rfl (Or.inl rfl) (pe_call G__law_linked hr__law_linked rfl T.m__law_linked T.k__law_linked T.b__law_linked .nil pass0 (pa_cons (pv 1) pa_nil)))
      (pss_cons (ps_set (i := 4) nd rfl (Or.inl rfl) (pe_callB (call_reprR gu hu2) (by rfl) T.z_repr (by decide +kernel) (pa_cons (pv 3) pa_nil)))
      (pss_cons (ps_asg (pe_call G__law_loaded hr__law_loaded rfl T.m__law_loaded T.k__law_loaded T.b__law_loaded .nil pass0 (pa_cons (pv 3) pa_nil)) (pg_tup rfl (pgs_cons (pg_name (i := 5) nd rfl (Or.inl rfl)) (pgs_cons (pg_name (i := 6) nd rfl (Or.inl rfl)) pgs_nil))))
      (pss_cons (ps_set (i := 7) nd rfl (Or.inl rfl) (pe_lst (pa_cons (pe_call G_load hr_load rfl T.m_load T.k_load T.b_load .nil pass0 (pa_cons (pv 3) pa_nil)) (pa_cons (by exact (pe_callKS (E := fun _ => E0) G_load hr_load rfl T.m_load T.k_load T.w_load_linked passAt0 (pk_cons (pv 3) pk_nil))) pa_nil))))
      (pss_cons (ps_if (PW.pt (pw_or (pt_not (pt_val (by exact (pe_callG G__law_same gu hr__law_same rfl T.m__law_same T.k__law_same T.b__law_same .nil pass0 (pa_cons (pv 7) (pa_cons (pe_lst (pa_cons (pv 5) (pa_cons (pv 5) pa_nil))) pa_nil)))))) (pw_or1 (pt_cmpR op_ne (pe_callB (call_reprR gu hu2) (by rfl) T.z_repr (by decide +kernel) (pa_cons (pv 3) pa_nil)) (pv 4) (nomark _))))) (pss_one (ps_ret pe_bl)) pss_nil)
      (pss_one (ps_if (pt_not (pt_val (by exact (pe_callG G__law_same gu hr__law_same rfl T.m__law_same T.k__law_same T.b__law_same .nil pass0 (pa_cons (pe_lst (pa_cons (pe_call G_rows_in hr_rows_in rfl T.m_rows_in T.k_rows_in T.b_rows_in .nil pass0 (pa_cons (pe_ix ix_tup (pv 5) pe_int (fun _ _ => rfl)) pa_nil)) (pa_cons (by exact (pe_callKS (E := fun _ => E0) G_rows_in hr_rows_in rfl T.m_rows_in T.k_rows_in T.w_rows_in_words passAt0 (pk_cons (pe_ix ix_tup (pe_ix ix_list (pv 7) pe_int (fun _ _ => rfl)) pe_int (fun _ _ => rfl)) pk_nil))) pa_nil))) (pa_cons (pe_lst (pa_cons (pv 6) (pa_cons (pv 6) pa_nil))) pa_nil)))))) (pss_one (ps_ret pe_bl)) pss_nil))))))))
      (pss_cons (ps_if (PW.pt (pw_and (pt_cmpR op_eq (pe_call G__law_draw hr__law_draw rfl T.m__law_draw T.k__law_draw T.b__law_draw .nil pass0 (pa_cons (pv 1) (pa_cons pe_int pa_nil))) pe_int (nomark _)) (pw_and1 (pt_not (pt_val (by exact (pe_callG0 G__law_is_far_right gu hr__law_is_far_right rfl T.m__law_is_far_right T.k__law_is_far_right T.b__law_is_far_right .nil pass0))))))) (pss_one (ps_ret pe_bl)) pss_nil)
      (pss_one (ps_ret (by exact (pe_callG0 G__law_are_few_right gu hr__law_are_few_right rfl T.m__law_are_few_right T.k__law_are_few_right T.b__law_are_few_right .nil pass0))))))), ?_⟩
  refine ⟨_, rfl, a, ns, rfl, hS, h63, fun l H1 e1 q ms hl0 f1 => ?_⟩
  dsimp only [gName]
  refine ⟨(3 : Int), rfl, by decide, by decide, ?_⟩
  refine for_range (lo := 0) (n := (3 : Int).toNat) (fun i σ H' => ∃ (o2 o3 o4 o5 o6 o7 : Option V), σ = [some (.ref a), some (.ref l), o2, o3, o4, o5, o6, o7] ∧ Feed K H' l q ms) ?_ ?_ ?_
  · exact ⟨none, none, none, none, none, none, rfl, f1⟩
  · rintro i σ H2 hi ⟨o2, o3, o4, o5, o6, o7, rfl, f2⟩
    refine ⟨_, rfl, l, q, ms, rfl, f2, fun z H3 n tk g fs f3 k3 hz wf n0 n1 t0 t1 hg => ?_⟩
    have sn : sml n := ⟨n0, by omega⟩
    have st : sml tk := ⟨t0, by omega⟩
    have sg : sml g := by rcases hg with rfl | rfl <;> (unfold sml; omega)
    have rpl := linked_rp wf sn st sg
    have img := image_rp wf sn st sg
    have bck := back_rp wf
    have hz3 := dp_same (del_le H3 l) hz
    have hall : (allE fs).length ≤ 100000 := by
      have h2 := allTo_le wf fs.length (Nat.le_refl _)
      have h3 : (allE fs).length = (allTo fs fs.length).length := rfl
      have := wf.few
      omega
    dsimp only [gName]
    obtain ⟨sh, hsh⟩ : ∃ sh, (linkedD n tk g fs).shown = sh := ⟨_, rfl⟩
    refine ⟨_, rfl, z, linkedD n tk g fs, rfl, hz3, rpl, ?_⟩
    rw [hsh]
    dsimp only [gName]
    refine ⟨_, rfl, z, n, tk, g, fs, rfl, hz3, wf, fun y H4 e4 hy => ?_⟩
    obtain ⟨ta, txs, rfl, hta, htx⟩ := tup_of hy
    obtain ⟨w0, w1, rfl, hw0, hw1⟩ : ∃ w0 w1, txs = [w0, w1] ∧ Dp K H4 w0 (imageD n tk g fs) ∧ Dp K H4 w1 (backD (allE fs)) := by
      cases htx with
      | cons a r => cases r with
        | cons b r => cases r; exact ⟨_, _, rfl, a, b⟩
    refine ⟨ta, _, rfl, hta, rfl, _, _, rfl, _, _, rfl, rfl, ?_⟩
    have hz4 := dp_same e4 hz3
    dsimp only
    refine ⟨_, rfl, z, n, tk, g, fs, rfl, hz4, wf, fun z1 H5 e5 hz1 => ?_⟩
    have hz5 := dp_same e5 hz4
    refine ⟨_, rfl, z, n, tk, g, fs, rfl, hz5, wf, fun z2 H6 e6 hz2 => ?_⟩
    refine ⟨(by show 2 ≤ sizeLine; decide), fun p hp => ?_⟩
    have s7 := same_new hp (.lst [z1, z2])
    have ep : (upd H6 p (.lst [z1, z2])) p = some (.lst [z1, z2]) := upd_same
    have e47 := (e5.trans e6).trans s7
    have dp1 : Dp K (upd H6 p (.lst [z1, z2])) (.ref p) (.list [imageD n tk g fs, imageD n tk g fs]) := .lst (SqL.of upd_same) (.cons (dp_same (e6.trans s7) hz1) (.cons (dp_same s7 hz2) .nil))
    have hz17 := dp_same (e6.trans s7) hz1
    generalize upd H6 p (.lst [z1, z2]) = H7 at s7 ep e47 dp1 hz17 ⊢
    dsimp only [gName]
    have hw07 := dp_same e47 hw0
    refine ⟨_, rfl, _, rfl, _, rfl, (by show 2 ≤ sizeLine; decide), fun p2 hp2 => ?_⟩
    have s8 := same_new hp2 (.lst [w0, w0])
    have dp2 : Dp K (upd H7 p2 (.lst [w0, w0])) (.ref p2) (.list [imageD n tk g fs, imageD n tk g fs]) := .lst (SqL.of upd_same) (.cons (dp_same s8 hw07) (.cons (dp_same s8 hw07) .nil))
    have dp18 := dp_same s8 dp1
    have ep8 := s8 _ _ ep
    have hz18 := dp_same s8 hz17
    have hw08 := dp_same s8 hw07
    generalize upd H7 p2 (.lst [w0, w0]) = H8 at s8 dp2 dp18 ep8 hz18 hw08 ⊢
    refine ⟨.ref p, .ref p2, .list [imageD n tk g fs, imageD n tk g fs], rfl, dp18, dp2, ⟨rfl, ands img.1 (ands img.1 rfl), ?_, ?_⟩, _, rfl, ?_⟩
    · show 1 + (nodes (imageD n tk g fs) + (nodes (imageD n tk g fs) + 0)) ≤ 690000
      have := img.2.1
      omega
    · show max (imageD n tk g fs).depth (max (imageD n tk g fs).depth 0) + 1 ≤ 100
      have := img.2.2
      omega
    refine iteF ?_
    have e48 := e47.trans s8
    have hz8 := dp_same e48 hz4
    refine ⟨_, rfl, z, linkedD n tk g fs, rfl, hz8, rpl, ?_⟩
    rw [hsh]
    refine ⟨_, rfl, rfl, _, rfl, ?_⟩
    refine ifF (by rw [decide_eq_true rfl]; rfl) ?_
    refine next_go ?_
    dsimp only
    obtain ⟨ia, wa, ixs, rfl, hia, hwa⟩ := image_inv hw08
    refine ⟨_, rfl, ia, _, _, _, rfl, rfl, hia, (atI_nat (j := 0) rfl), wa, allE fs, rfl, hwa, chain_all _ _ (Nat.le_refl _), all_ok wf, hall, fun y2 H9 e9 hy2 => ?_⟩
    obtain ⟨ib, wb, jxs, rfl, hib, hwb⟩ := image_inv (dp_same e9 hz18)
    refine ⟨_, rfl, p, _, _, _, rfl, rfl, SqL.of (e9 _ _ ep8), (by rfl : _ = some (V.ref ib)), ib, _, _, _, rfl, rfl, hib, (atI_nat (j := 0) rfl), wb, allE fs, rfl, hwb, chain_all _ _ (Nat.le_refl _), all_ok wf, hall, fun y3 HA eA hy3 => ?_⟩
    refine ⟨(by show 2 ≤ sizeLine; decide), fun p3 hp3 => ?_⟩
    have sB := same_new hp3 (.lst [y2, y3])
    have dp3 : Dp K (upd HA p3 (.lst [y2, y3])) (.ref p3) (.list [backD (allE fs), backD (allE fs)]) := .lst (SqL.of upd_same) (.cons (dp_same (eA.trans sB) hy2) (.cons (dp_same sB hy3) .nil))
    generalize upd HA p3 (.lst [y2, y3]) = HB at sB dp3 ⊢
    have e4B := e48.trans ((e9.trans eA).trans sB)
    have hw1B := dp_same e4B hw1
    refine ⟨_, rfl, _, rfl, (by show 2 ≤ sizeLine; decide), fun p4 hp4 => ?_⟩
    have sC := same_new hp4 (.lst [w1, w1])
    have dp4 : Dp K (upd HB p4 (.lst [w1, w1])) (.ref p4) (.list [backD (allE fs), backD (allE fs)]) := .lst (SqL.of upd_same) (.cons (dp_same sC hw1B) (.cons (dp_same sC hw1B) .nil))
    have dp3C := dp_same sC dp3
    generalize upd HB p4 (.lst [w1, w1]) = HC at sC dp4 dp3C ⊢
    refine ⟨.ref p3, .ref p4, .list [backD (allE fs), backD (allE fs)], rfl, dp3C, dp4, ⟨rfl, ands bck.1 (ands bck.1 rfl), ?_, ?_⟩, _, rfl, ?_⟩
    · show 1 + (nodes (backD (allE fs)) + (nodes (backD (allE fs)) + 0)) ≤ 690000
      have := bck.2.1
      omega
    · show max (backD (allE fs)).depth (max (backD (allE fs)).depth 0) + 1 ≤ 100
      have := bck.2.2
      omega
    refine iteF ?_
    have fiz : FI K H3 l q ms HC := (FI.ref f3).same (e4.trans (e4B.trans sC))
    exact ⟨_, _, _, _, _, _, rfl, fiz.f⟩
  · rintro σ H2 ⟨o2, o3, o4, o5, o6, o7, rfl, f2⟩
    dsimp only
    refine ⟨_, rfl, l, 4, q, ms, rfl, f2, by decide, by decide, fun d H3 d0 d1 f3 k3 => ?_⟩
    refine ⟨rfl, _, rfl, ?_⟩
    rw [int_dec]
    refine ite2 (fun c => ?_) (fun c => ?_)
    · refine ⟨rfl, fun H4 e4 => ⟨_, rfl, ?_⟩⟩
      refine iteF ?_
      refine next_go ?_
      exact ⟨rfl, fun H5 e5 => k H5⟩
    · refine iteF ?_
      refine next_go ?_
      exact ⟨rfl, fun H5 e5 => k H5⟩
end
end Lk

set_option Elab.async false
set_option linter.all false
set_option maxRecDepth 100000
set_option maxHeartbeats 4000000
namespace Lk
open PySem PySem.Spec PyProof.Rows L2
theorem all_mk {l : PySem.W.OpenLaw} {w : World} {K : PySem.W.Frag} {h : Heap} {mg : Str → Option Value} {fa : Addr} (X : K.In h) (G : h.Ns mainGlobals mg) (hfa : mg "law" = some (.ref fa))
    {f_least_long : Addr} {oc0 kV0 dc0 pm0 cd0 ct0 : Value} {od0 an0 : Option Addr} {sl0 : Array (Option Value)}
    {f_addresses_of : Addr} {oc1 kV1 dc1 pm1 cd1 ct1 : Value} {od1 an1 : Option Addr} {sl1 : Array (Option Value)}
    {f_is_jump : Addr} {oc2 kV2 dc2 pm2 cd2 ct2 : Value} {od2 an2 : Option Addr} {sl2 : Array (Option Value)}
    {f__too_far : Addr} {oc3 kV3 dc3 pm3 cd3 ct3 : Value} {od3 an3 : Option Addr} {sl3 : Array (Option Value)}
    {f_parts_of : Addr} {oc4 kV4 dc4 pm4 cd4 ct4 : Value} {od4 an4 : Option Addr} {sl4 : Array (Option Value)}
    {f_word_of : Addr} {oc5 kV5 dc5 pm5 cd5 ct5 : Value} {od5 an5 : Option Addr} {sl5 : Array (Option Value)}
    {T5 : Addr} {dd5 : Option Addr} {di5 : Array Value} {dn5 : Nat} {dl5 : Array (Option Value)}
    {f_load : Addr} {oc6 kV6 dc6 pm6 cd6 ct6 : Value} {od6 an6 : Option Addr} {sl6 : Array (Option Value)}
    {f__addresses_in : Addr} {oc7 kV7 dc7 pm7 cd7 ct7 : Value} {od7 an7 : Option Addr} {sl7 : Array (Option Value)}
    {f__thing_of : Addr} {oc8 kV8 dc8 pm8 cd8 ct8 : Value} {od8 an8 : Option Addr} {sl8 : Array (Option Value)}
    {f__target_of : Addr} {oc9 kV9 dc9 pm9 cd9 ct9 : Value} {od9 an9 : Option Addr} {sl9 : Array (Option Value)}
    {f__row_words : Addr} {oc10 kV10 dc10 pm10 cd10 ct10 : Value} {od10 an10 : Option Addr} {sl10 : Array (Option Value)}
    {f_rows_in : Addr} {oc11 kV11 dc11 pm11 cd11 ct11 : Value} {od11 an11 : Option Addr} {sl11 : Array (Option Value)}
    {f__row_of : Addr} {oc12 kV12 dc12 pm12 cd12 ct12 : Value} {od12 an12 : Option Addr} {sl12 : Array (Option Value)}
    {f__law_feed : Addr} {oc13 kV13 dc13 pm13 cd13 ct13 : Value} {od13 an13 : Option Addr} {sl13 : Array (Option Value)}
    {f__law_draw : Addr} {oc14 kV14 dc14 pm14 cd14 ct14 : Value} {od14 an14 : Option Addr} {sl14 : Array (Option Value)}
    {f__law_any : Addr} {oc15 kV15 dc15 pm15 cd15 ct15 : Value} {od15 an15 : Option Addr} {sl15 : Array (Option Value)}
    {f__law_same : Addr} {oc16 kV16 dc16 pm16 cd16 ct16 : Value} {od16 an16 : Option Addr} {sl16 : Array (Option Value)}
    {f__law_unit : Addr} {oc17 kV17 dc17 pm17 cd17 ct17 : Value} {od17 an17 : Option Addr} {sl17 : Array (Option Value)}
    {f__law_ring_call : Addr} {oc18 kV18 dc18 pm18 cd18 ct18 : Value} {od18 an18 : Option Addr} {sl18 : Array (Option Value)}
    {f__law_rows : Addr} {oc19 kV19 dc19 pm19 cd19 ct19 : Value} {od19 an19 : Option Addr} {sl19 : Array (Option Value)}
    {f__law_linked : Addr} {oc20 kV20 dc20 pm20 cd20 ct20 : Value} {od20 an20 : Option Addr} {sl20 : Array (Option Value)}
    {f__law_size : Addr} {oc21 kV21 dc21 pm21 cd21 ct21 : Value} {od21 an21 : Option Addr} {sl21 : Array (Option Value)}
    {f__law_spots : Addr} {oc22 kV22 dc22 pm22 cd22 ct22 : Value} {od22 an22 : Option Addr} {sl22 : Array (Option Value)}
    {f__law_far : Addr} {oc23 kV23 dc23 pm23 cd23 ct23 : Value} {od23 an23 : Option Addr} {sl23 : Array (Option Value)}
    {f__law_first : Addr} {oc24 kV24 dc24 pm24 cd24 ct24 : Value} {od24 an24 : Option Addr} {sl24 : Array (Option Value)}
    {f__law_worded : Addr} {oc25 kV25 dc25 pm25 cd25 ct25 : Value} {od25 an25 : Option Addr} {sl25 : Array (Option Value)}
    {f__law_loaded : Addr} {oc26 kV26 dc26 pm26 cd26 ct26 : Value} {od26 an26 : Option Addr} {sl26 : Array (Option Value)}
    {f__law_few : Addr} {oc27 kV27 dc27 pm27 cd27 ct27 : Value} {od27 an27 : Option Addr} {sl27 : Array (Option Value)}
    {f__law_are_few_right : Addr} {oc28 kV28 dc28 pm28 cd28 ct28 : Value} {od28 an28 : Option Addr} {sl28 : Array (Option Value)}
    {f__law_is_far_right : Addr} {oc29 kV29 dc29 pm29 cd29 ct29 : Value} {od29 an29 : Option Addr} {sl29 : Array (Option Value)}
    {f_law : Addr} {oc30 kV30 dc30 pm30 cd30 ct30 : Value} {od30 an30 : Option Addr} {sl30 : Array (Option Value)}
    {a_OPERATIONS : Addr} {its_OPERATIONS : Array Value} {n_OPERATIONS : Nat} {sl_OPERATIONS : Array (Option Value)}
    {t_PLAIN : Tok}
    {t_NUMBER : Tok}
    {t_MOVE : Tok}
    {t_SWAP : Tok}
    {t_SHORT_JUMP : Tok}
    {t_LONG_JUMP : Tok}
    {t_SHORT_NOUGHT : Tok}
    {t_LONG_NOUGHT : Tok}
    {t_CALL : Tok}
    {t_SHORT_OFFSET : Tok}
    {t_SHORT_LOW : Tok}
    {t_SHORT_HIGH : Tok}
    {a_PLAIN_VERBS : Addr} {its_PLAIN_VERBS : Array Value} {n_PLAIN_VERBS : Nat} {sl_PLAIN_VERBS : Array (Option Value)}
    {a_PLACED_VERBS : Addr} {dd_PLACED_VERBS : Option Addr} {its_PLACED_VERBS : Array Value} {n_PLACED_VERBS : Nat} {sl_PLACED_VERBS : Array (Option Value)}
    (a0 : PySem.W.nsIn K mainGlobals "least_long" = some (some (.ref f_least_long)))
    (l0 : K.lookup f_least_long = some ⟨oc0, od0, .func (PySem.W.fnOf "least_long" "least_long" (defArgs s_least_long) (defBody s_least_long) (defScope s_least_long) .none kV0 dc0 pm0 an0 cd0 ct0), sl0⟩)
    (c0 : PySem.W.codeIn K cd0 "least_long" = true)
    (k0 : PySem.W.keepIn K (.ref f_least_long) = true)
    (a1 : PySem.W.nsIn K mainGlobals "addresses_of" = some (some (.ref f_addresses_of)))
    (l1 : K.lookup f_addresses_of = some ⟨oc1, od1, .func (PySem.W.fnOf "addresses_of" "addresses_of" (defArgs s_addresses_of) (defBody s_addresses_of) (defScope s_addresses_of) .none kV1 dc1 pm1 an1 cd1 ct1), sl1⟩)
    (c1 : PySem.W.codeIn K cd1 "addresses_of" = true)
    (k1 : PySem.W.keepIn K (.ref f_addresses_of) = true)
    (a2 : PySem.W.nsIn K mainGlobals "is_jump" = some (some (.ref f_is_jump)))
    (l2 : K.lookup f_is_jump = some ⟨oc2, od2, .func (PySem.W.fnOf "is_jump" "is_jump" (defArgs s_is_jump) (defBody s_is_jump) (defScope s_is_jump) .none kV2 dc2 pm2 an2 cd2 ct2), sl2⟩)
    (c2 : PySem.W.codeIn K cd2 "is_jump" = true)
    (k2 : PySem.W.keepIn K (.ref f_is_jump) = true)
    (a3 : PySem.W.nsIn K mainGlobals "_too_far" = some (some (.ref f__too_far)))
    (l3 : K.lookup f__too_far = some ⟨oc3, od3, .func (PySem.W.fnOf "_too_far" "_too_far" (defArgs s__too_far) (defBody s__too_far) (defScope s__too_far) .none kV3 dc3 pm3 an3 cd3 ct3), sl3⟩)
    (c3 : PySem.W.codeIn K cd3 "_too_far" = true)
    (k3 : PySem.W.keepIn K (.ref f__too_far) = true)
    (a4 : PySem.W.nsIn K mainGlobals "parts_of" = some (some (.ref f_parts_of)))
    (l4 : K.lookup f_parts_of = some ⟨oc4, od4, .func (PySem.W.fnOf "parts_of" "parts_of" (defArgs s_parts_of) (defBody s_parts_of) (defScope s_parts_of) .none kV4 dc4 pm4 an4 cd4 ct4), sl4⟩)
    (c4 : PySem.W.codeIn K cd4 "parts_of" = true)
    (k4 : PySem.W.keepIn K (.ref f_parts_of) = true)
    (a5 : PySem.W.nsIn K mainGlobals "word_of" = some (some (.ref f_word_of)))
    (l5 : K.lookup f_word_of = some ⟨oc5, od5, .func (PySem.W.fnOf "word_of" "word_of" (defArgs s_word_of) (defBody s_word_of) (defScope s_word_of) (.ref T5) kV5 dc5 pm5 an5 cd5 ct5), sl5⟩)
    (dT5 : K.lookup T5 = some ⟨.type "tuple", dd5, .seq di5 dn5, dl5⟩)
    (dv5 : Vals [V.int 0, V.int 0, V.int 0] di5.toList)
    (c5 : PySem.W.codeIn K cd5 "word_of" = true)
    (k5 : PySem.W.keepIn K (.ref f_word_of) = true)
    (a6 : PySem.W.nsIn K mainGlobals "load" = some (some (.ref f_load)))
    (l6 : K.lookup f_load = some ⟨oc6, od6, .func (PySem.W.fnOf "load" "load" (defArgs s_load) (defBody s_load) (defScope s_load) .none kV6 dc6 pm6 an6 cd6 ct6), sl6⟩)
    (c6 : PySem.W.codeIn K cd6 "load" = true)
    (k6 : PySem.W.keepIn K (.ref f_load) = true)
    (a7 : PySem.W.nsIn K mainGlobals "_addresses_in" = some (some (.ref f__addresses_in)))
    (l7 : K.lookup f__addresses_in = some ⟨oc7, od7, .func (PySem.W.fnOf "_addresses_in" "_addresses_in" (defArgs s__addresses_in) (defBody s__addresses_in) (defScope s__addresses_in) .none kV7 dc7 pm7 an7 cd7 ct7), sl7⟩)
    (c7 : PySem.W.codeIn K cd7 "_addresses_in" = true)
    (k7 : PySem.W.keepIn K (.ref f__addresses_in) = true)
    (a8 : PySem.W.nsIn K mainGlobals "_thing_of" = some (some (.ref f__thing_of)))
    (l8 : K.lookup f__thing_of = some ⟨oc8, od8, .func (PySem.W.fnOf "_thing_of" "_thing_of" (defArgs s__thing_of) (defBody s__thing_of) (defScope s__thing_of) .none kV8 dc8 pm8 an8 cd8 ct8), sl8⟩)
    (c8 : PySem.W.codeIn K cd8 "_thing_of" = true)
    (k8 : PySem.W.keepIn K (.ref f__thing_of) = true)
    (a9 : PySem.W.nsIn K mainGlobals "_target_of" = some (some (.ref f__target_of)))
    (l9 : K.lookup f__target_of = some ⟨oc9, od9, .func (PySem.W.fnOf "_target_of" "_target_of" (defArgs s__target_of) (defBody s__target_of) (defScope s__target_of) .none kV9 dc9 pm9 an9 cd9 ct9), sl9⟩)
    (c9 : PySem.W.codeIn K cd9 "_target_of" = true)
    (k9 : PySem.W.keepIn K (.ref f__target_of) = true)
    (a10 : PySem.W.nsIn K mainGlobals "_row_words" = some (some (.ref f__row_words)))
    (l10 : K.lookup f__row_words = some ⟨oc10, od10, .func (PySem.W.fnOf "_row_words" "_row_words" (defArgs s__row_words) (defBody s__row_words) (defScope s__row_words) .none kV10 dc10 pm10 an10 cd10 ct10), sl10⟩)
    (c10 : PySem.W.codeIn K cd10 "_row_words" = true)
    (k10 : PySem.W.keepIn K (.ref f__row_words) = true)
    (a11 : PySem.W.nsIn K mainGlobals "rows_in" = some (some (.ref f_rows_in)))
    (l11 : K.lookup f_rows_in = some ⟨oc11, od11, .func (PySem.W.fnOf "rows_in" "rows_in" (defArgs s_rows_in) (defBody s_rows_in) (defScope s_rows_in) .none kV11 dc11 pm11 an11 cd11 ct11), sl11⟩)
    (c11 : PySem.W.codeIn K cd11 "rows_in" = true)
    (k11 : PySem.W.keepIn K (.ref f_rows_in) = true)
    (a12 : PySem.W.nsIn K mainGlobals "_row_of" = some (some (.ref f__row_of)))
    (l12 : K.lookup f__row_of = some ⟨oc12, od12, .func (PySem.W.fnOf "_row_of" "_row_of" (defArgs s__row_of) (defBody s__row_of) (defScope s__row_of) .none kV12 dc12 pm12 an12 cd12 ct12), sl12⟩)
    (c12 : PySem.W.codeIn K cd12 "_row_of" = true)
    (k12 : PySem.W.keepIn K (.ref f__row_of) = true)
    (a13 : PySem.W.nsIn K mainGlobals "_law_feed" = some (some (.ref f__law_feed)))
    (l13 : K.lookup f__law_feed = some ⟨oc13, od13, .func (PySem.W.fnOf "_law_feed" "_law_feed" (defArgs s__law_feed) (defBody s__law_feed) (defScope s__law_feed) .none kV13 dc13 pm13 an13 cd13 ct13), sl13⟩)
    (c13 : PySem.W.codeIn K cd13 "_law_feed" = true)
    (k13 : PySem.W.keepIn K (.ref f__law_feed) = true)
    (a14 : PySem.W.nsIn K mainGlobals "_law_draw" = some (some (.ref f__law_draw)))
    (l14 : K.lookup f__law_draw = some ⟨oc14, od14, .func (PySem.W.fnOf "_law_draw" "_law_draw" (defArgs s__law_draw) (defBody s__law_draw) (defScope s__law_draw) .none kV14 dc14 pm14 an14 cd14 ct14), sl14⟩)
    (c14 : PySem.W.codeIn K cd14 "_law_draw" = true)
    (k14 : PySem.W.keepIn K (.ref f__law_draw) = true)
    (a15 : PySem.W.nsIn K mainGlobals "_law_any" = some (some (.ref f__law_any)))
    (l15 : K.lookup f__law_any = some ⟨oc15, od15, .func (PySem.W.fnOf "_law_any" "_law_any" (defArgs s__law_any) (defBody s__law_any) (defScope s__law_any) .none kV15 dc15 pm15 an15 cd15 ct15), sl15⟩)
    (c15 : PySem.W.codeIn K cd15 "_law_any" = true)
    (k15 : PySem.W.keepIn K (.ref f__law_any) = true)
    (a16 : PySem.W.nsIn K mainGlobals "_law_same" = some (some (.ref f__law_same)))
    (l16 : K.lookup f__law_same = some ⟨oc16, od16, .func (PySem.W.fnOf "_law_same" "_law_same" (defArgs s__law_same) (defBody s__law_same) (defScope s__law_same) .none kV16 dc16 pm16 an16 cd16 ct16), sl16⟩)
    (c16 : PySem.W.codeIn K cd16 "_law_same" = true)
    (k16 : PySem.W.keepIn K (.ref f__law_same) = true)
    (a17 : PySem.W.nsIn K mainGlobals "_law_unit" = some (some (.ref f__law_unit)))
    (l17 : K.lookup f__law_unit = some ⟨oc17, od17, .func (PySem.W.fnOf "_law_unit" "_law_unit" (defArgs s__law_unit) (defBody s__law_unit) (defScope s__law_unit) .none kV17 dc17 pm17 an17 cd17 ct17), sl17⟩)
    (c17 : PySem.W.codeIn K cd17 "_law_unit" = true)
    (k17 : PySem.W.keepIn K (.ref f__law_unit) = true)
    (a18 : PySem.W.nsIn K mainGlobals "_law_ring_call" = some (some (.ref f__law_ring_call)))
    (l18 : K.lookup f__law_ring_call = some ⟨oc18, od18, .func (PySem.W.fnOf "_law_ring_call" "_law_ring_call" (defArgs s__law_ring_call) (defBody s__law_ring_call) (defScope s__law_ring_call) .none kV18 dc18 pm18 an18 cd18 ct18), sl18⟩)
    (c18 : PySem.W.codeIn K cd18 "_law_ring_call" = true)
    (k18 : PySem.W.keepIn K (.ref f__law_ring_call) = true)
    (a19 : PySem.W.nsIn K mainGlobals "_law_rows" = some (some (.ref f__law_rows)))
    (l19 : K.lookup f__law_rows = some ⟨oc19, od19, .func (PySem.W.fnOf "_law_rows" "_law_rows" (defArgs s__law_rows) (defBody s__law_rows) (defScope s__law_rows) .none kV19 dc19 pm19 an19 cd19 ct19), sl19⟩)
    (c19 : PySem.W.codeIn K cd19 "_law_rows" = true)
    (k19 : PySem.W.keepIn K (.ref f__law_rows) = true)
    (a20 : PySem.W.nsIn K mainGlobals "_law_linked" = some (some (.ref f__law_linked)))
    (l20 : K.lookup f__law_linked = some ⟨oc20, od20, .func (PySem.W.fnOf "_law_linked" "_law_linked" (defArgs s__law_linked) (defBody s__law_linked) (defScope s__law_linked) .none kV20 dc20 pm20 an20 cd20 ct20), sl20⟩)
    (c20 : PySem.W.codeIn K cd20 "_law_linked" = true)
    (k20 : PySem.W.keepIn K (.ref f__law_linked) = true)
    (a21 : PySem.W.nsIn K mainGlobals "_law_size" = some (some (.ref f__law_size)))
    (l21 : K.lookup f__law_size = some ⟨oc21, od21, .func (PySem.W.fnOf "_law_size" "_law_size" (defArgs s__law_size) (defBody s__law_size) (defScope s__law_size) .none kV21 dc21 pm21 an21 cd21 ct21), sl21⟩)
    (c21 : PySem.W.codeIn K cd21 "_law_size" = true)
    (k21 : PySem.W.keepIn K (.ref f__law_size) = true)
    (a22 : PySem.W.nsIn K mainGlobals "_law_spots" = some (some (.ref f__law_spots)))
    (l22 : K.lookup f__law_spots = some ⟨oc22, od22, .func (PySem.W.fnOf "_law_spots" "_law_spots" (defArgs s__law_spots) (defBody s__law_spots) (defScope s__law_spots) .none kV22 dc22 pm22 an22 cd22 ct22), sl22⟩)
    (c22 : PySem.W.codeIn K cd22 "_law_spots" = true)
    (k22 : PySem.W.keepIn K (.ref f__law_spots) = true)
    (a23 : PySem.W.nsIn K mainGlobals "_law_far" = some (some (.ref f__law_far)))
    (l23 : K.lookup f__law_far = some ⟨oc23, od23, .func (PySem.W.fnOf "_law_far" "_law_far" (defArgs s__law_far) (defBody s__law_far) (defScope s__law_far) .none kV23 dc23 pm23 an23 cd23 ct23), sl23⟩)
    (c23 : PySem.W.codeIn K cd23 "_law_far" = true)
    (k23 : PySem.W.keepIn K (.ref f__law_far) = true)
    (a24 : PySem.W.nsIn K mainGlobals "_law_first" = some (some (.ref f__law_first)))
    (l24 : K.lookup f__law_first = some ⟨oc24, od24, .func (PySem.W.fnOf "_law_first" "_law_first" (defArgs s__law_first) (defBody s__law_first) (defScope s__law_first) .none kV24 dc24 pm24 an24 cd24 ct24), sl24⟩)
    (c24 : PySem.W.codeIn K cd24 "_law_first" = true)
    (k24 : PySem.W.keepIn K (.ref f__law_first) = true)
    (a25 : PySem.W.nsIn K mainGlobals "_law_worded" = some (some (.ref f__law_worded)))
    (l25 : K.lookup f__law_worded = some ⟨oc25, od25, .func (PySem.W.fnOf "_law_worded" "_law_worded" (defArgs s__law_worded) (defBody s__law_worded) (defScope s__law_worded) .none kV25 dc25 pm25 an25 cd25 ct25), sl25⟩)
    (c25 : PySem.W.codeIn K cd25 "_law_worded" = true)
    (k25 : PySem.W.keepIn K (.ref f__law_worded) = true)
    (a26 : PySem.W.nsIn K mainGlobals "_law_loaded" = some (some (.ref f__law_loaded)))
    (l26 : K.lookup f__law_loaded = some ⟨oc26, od26, .func (PySem.W.fnOf "_law_loaded" "_law_loaded" (defArgs s__law_loaded) (defBody s__law_loaded) (defScope s__law_loaded) .none kV26 dc26 pm26 an26 cd26 ct26), sl26⟩)
    (c26 : PySem.W.codeIn K cd26 "_law_loaded" = true)
    (k26 : PySem.W.keepIn K (.ref f__law_loaded) = true)
    (a27 : PySem.W.nsIn K mainGlobals "_law_few" = some (some (.ref f__law_few)))
    (l27 : K.lookup f__law_few = some ⟨oc27, od27, .func (PySem.W.fnOf "_law_few" "_law_few" (defArgs s__law_few) (defBody s__law_few) (defScope s__law_few) .none kV27 dc27 pm27 an27 cd27 ct27), sl27⟩)
    (c27 : PySem.W.codeIn K cd27 "_law_few" = true)
    (k27 : PySem.W.keepIn K (.ref f__law_few) = true)
    (a28 : PySem.W.nsIn K mainGlobals "_law_are_few_right" = some (some (.ref f__law_are_few_right)))
    (l28 : K.lookup f__law_are_few_right = some ⟨oc28, od28, .func (PySem.W.fnOf "_law_are_few_right" "_law_are_few_right" (defArgs s__law_are_few_right) (defBody s__law_are_few_right) (defScope s__law_are_few_right) .none kV28 dc28 pm28 an28 cd28 ct28), sl28⟩)
    (c28 : PySem.W.codeIn K cd28 "_law_are_few_right" = true)
    (k28 : PySem.W.keepIn K (.ref f__law_are_few_right) = true)
    (a29 : PySem.W.nsIn K mainGlobals "_law_is_far_right" = some (some (.ref f__law_is_far_right)))
    (l29 : K.lookup f__law_is_far_right = some ⟨oc29, od29, .func (PySem.W.fnOf "_law_is_far_right" "_law_is_far_right" (defArgs s__law_is_far_right) (defBody s__law_is_far_right) (defScope s__law_is_far_right) .none kV29 dc29 pm29 an29 cd29 ct29), sl29⟩)
    (c29 : PySem.W.codeIn K cd29 "_law_is_far_right" = true)
    (k29 : PySem.W.keepIn K (.ref f__law_is_far_right) = true)
    (a30 : PySem.W.nsIn K mainGlobals "law" = some (some (.ref f_law)))
    (l30 : K.lookup f_law = some ⟨oc30, od30, .func (PySem.W.fnOf "law" "law" (defArgs s_law) (defBody s_law) (defScope s_law) .none kV30 dc30 pm30 an30 cd30 ct30), sl30⟩)
    (c30 : PySem.W.codeIn K cd30 "law" = true)
    (k30 : PySem.W.keepIn K (.ref f_law) = true)
    (g_OPERATIONS : PySem.W.nsIn K mainGlobals "OPERATIONS" = some (some (.ref a_OPERATIONS)))
    (o_OPERATIONS : K.lookup a_OPERATIONS = some ⟨.type "tuple", none, .seq its_OPERATIONS n_OPERATIONS, sl_OPERATIONS⟩)
    (v_OPERATIONS : Vals ((["add", "sub", "mul", "div", "rem", "less", "same"] : List Str).map V.str) its_OPERATIONS.toList)
    (z'OPERATIONS : its_OPERATIONS.size ≤ sizeLine)
    (g_PLAIN : PySem.W.nsIn K mainGlobals "PLAIN" = some (some (.int 0 t_PLAIN)))
    (g_NUMBER : PySem.W.nsIn K mainGlobals "NUMBER" = some (some (.int 1 t_NUMBER)))
    (g_MOVE : PySem.W.nsIn K mainGlobals "MOVE" = some (some (.int 2 t_MOVE)))
    (g_SWAP : PySem.W.nsIn K mainGlobals "SWAP" = some (some (.int 3 t_SWAP)))
    (g_SHORT_JUMP : PySem.W.nsIn K mainGlobals "SHORT_JUMP" = some (some (.int 11 t_SHORT_JUMP)))
    (g_LONG_JUMP : PySem.W.nsIn K mainGlobals "LONG_JUMP" = some (some (.int 12 t_LONG_JUMP)))
    (g_SHORT_NOUGHT : PySem.W.nsIn K mainGlobals "SHORT_NOUGHT" = some (some (.int 13 t_SHORT_NOUGHT)))
    (g_LONG_NOUGHT : PySem.W.nsIn K mainGlobals "LONG_NOUGHT" = some (some (.int 14 t_LONG_NOUGHT)))
    (g_CALL : PySem.W.nsIn K mainGlobals "CALL" = some (some (.int 15 t_CALL)))
    (g_SHORT_OFFSET : PySem.W.nsIn K mainGlobals "SHORT_OFFSET" = some (some (.int 8 t_SHORT_OFFSET)))
    (g_SHORT_LOW : PySem.W.nsIn K mainGlobals "SHORT_LOW" = some (some (.int (-8) t_SHORT_LOW)))
    (g_SHORT_HIGH : PySem.W.nsIn K mainGlobals "SHORT_HIGH" = some (some (.int 7 t_SHORT_HIGH)))
    (g_PLAIN_VERBS : PySem.W.nsIn K mainGlobals "PLAIN_VERBS" = some (some (.ref a_PLAIN_VERBS)))
    (o_PLAIN_VERBS : K.lookup a_PLAIN_VERBS = some ⟨.type "tuple", none, .seq its_PLAIN_VERBS n_PLAIN_VERBS, sl_PLAIN_VERBS⟩)
    (v_PLAIN_VERBS : Vals ((["beat", "back", "tell", "keep", "fetch"] : List Str).map V.str) its_PLAIN_VERBS.toList)
    (z'PLAIN_VERBS : its_PLAIN_VERBS.size ≤ sizeLine)
    (g_PLACED_VERBS : PySem.W.nsIn K mainGlobals "PLACED_VERBS" = some (some (.ref a_PLACED_VERBS)))
    (o_PLACED_VERBS : K.lookup a_PLACED_VERBS = some ⟨.type "tuple", dd_PLACED_VERBS, .seq its_PLACED_VERBS n_PLACED_VERBS, sl_PLACED_VERBS⟩)
    (v_PLACED_VERBS : Vals ((["div", "rem", "call"] : List Str).map V.str) its_PLACED_VERBS.toList)
    (z'PLACED_VERBS : its_PLACED_VERBS.size ≤ sizeLine)
    (z_len : PySem.W.nsIn K mainGlobals "len" = some none)
    (z_enumerate : PySem.W.nsIn K mainGlobals "enumerate" = some none)
    (z_int : PySem.W.nsIn K mainGlobals "int" = some none)
    (z_isinstance : PySem.W.nsIn K mainGlobals "isinstance" = some none)
    (z_tuple : PySem.W.nsIn K mainGlobals "tuple" = some none)
    (z_repr : PySem.W.nsIn K mainGlobals "repr" = some none)
    (z_range : PySem.W.nsIn K mainGlobals "range" = some none)
    (z_list : PySem.W.nsIn K mainGlobals "list" = some none)
    (z_min : PySem.W.nsIn K mainGlobals "min" = some none)
    (z_max : PySem.W.nsIn K mainGlobals "max" = some none)
    (z_sorted : PySem.W.nsIn K mainGlobals "sorted" = some none)
    : ∃ fd : FuncData, (∀ (s : Shared) (v : Value), BindsTo s fd ⟨[v], []⟩ [("_law_script", v)]) ∧ ∀ base : Heap, K.In base → base.Ns mainGlobals mg → FnG l.prog w K mg base CX0 8 fa fd ["_law_script"] (spLaw K) := by
  have e := hfa.symm.trans (PySem.W.mg_of X G a30)
  cases e
  have F0 := fun_mk (st := s_least_long) l0 c0 k0
  have b0 := F0.binds (ps := ["things", "low", "high"]) fun _ _ _ _ _ _ us hl => match us, hl with | [_, _, _], _ => rfl
  have F1 := fun_mk (st := s_addresses_of) l1 c1 k1
  have b1 := F1.binds (ps := ["things", "chosen"]) fun _ _ _ _ _ _ us hl => match us, hl with | [_, _], _ => rfl
  have F2 := fun_mk (st := s_is_jump) l2 c2 k2
  have b2 := F2.binds (ps := ["thing"]) fun _ _ _ _ _ _ us hl => match us, hl with | [_], _ => rfl
  have F3 := fun_mk (st := s__too_far) l3 c3 k3
  have b3 := F3.binds (ps := ["things", "low", "high", "chosen"]) fun _ _ _ _ _ _ us hl => match us, hl with | [_, _, _, _], _ => rfl
  have F4 := fun_mk (st := s_parts_of) l4 c4 k4
  have b4 := F4.binds (ps := ["word"]) fun _ _ _ _ _ _ us hl => match us, hl with | [_], _ => rfl
  have F5 : FunD K "word_of" "word_of" (defArgs s_word_of) (defBody s_word_of) (defScope s_word_of) [V.int 0, V.int 0, V.int 0] [] f_word_of _ := ⟨⟨_, _, _, _, _, _, _, _, _, _, rfl, l5, c5, .inr ⟨(fun z => nomatch z), T5, _, di5.toList, _, rfl, dT5, rfl, dv5⟩, .inl rfl⟩, k5⟩
  obtain ⟨e5_1, V5_1, B5_1⟩ := F5.binds1 (ps := ["verb", "b", "c", "d"]) 1 0 (fun z => nomatch z) rfl (fun _ _ _ _ _ _ _ us its h1 h2 => match us, its, h1, h2 with | [_], [_, _, _], _, _ => ⟨_, rfl, rfl⟩)
  obtain ⟨e5_2, V5_2, B5_2⟩ := F5.binds1 (ps := ["verb", "b", "c", "d"]) 2 1 (fun z => nomatch z) rfl (fun _ _ _ _ _ _ _ us its h1 h2 => match us, its, h1, h2 with | [_, _], [_, _, _], _, _ => ⟨_, rfl, rfl⟩)
  obtain ⟨e5_3, V5_3, B5_3⟩ := F5.binds1 (ps := ["verb", "b", "c", "d"]) 3 2 (fun z => nomatch z) rfl (fun _ _ _ _ _ _ _ us its h1 h2 => match us, its, h1, h2 with | [_, _, _], [_, _, _], _, _ => ⟨_, rfl, rfl⟩)
  obtain ⟨e5_4, V5_4, B5_4⟩ := F5.binds1 (ps := ["verb", "b", "c", "d"]) 4 3 (fun z => nomatch z) rfl (fun _ _ _ _ _ _ _ us its h1 h2 => match us, its, h1, h2 with | [_, _, _, _], [_, _, _], _, _ => ⟨_, rfl, rfl⟩)
  have F6 := fun_mk (st := s_load) l6 c6 k6
  have b6 := F6.binds (ps := ["linked"]) fun _ _ _ _ _ _ us hl => match us, hl with | [_], _ => rfl
  have Ww_load_linked : KBinds K _ ["linked"] ["linked"] (fun us ws => match us, ws with | [], [a] => [a] | _, _ => []) (fun vs zs => match vs, zs with | [], [a] => [a] | _, _ => []) := fun_binds F6
    (fun _ _ _ _ _ _ us ws hl => match us, ws, hl with | [], [_], _ => rfl | [], [], h => nomatch h | [], _ :: _ :: _, h => nomatch h | _ :: _, _, h => nomatch h)
    (fun r1 r2 => match r1, r2 with | .nil, .cons a .nil => .cons a .nil | .nil, .nil => .nil | .nil, .cons _ (.cons _ _) => .nil | .cons _ _, _ => .nil)
  have F7 := fun_mk (st := s__addresses_in) l7 c7 k7
  have b7 := F7.binds (ps := ["rows"]) fun _ _ _ _ _ _ us hl => match us, hl with | [_], _ => rfl
  have F8 := fun_mk (st := s__thing_of) l8 c8 k8
  have b8 := F8.binds (ps := ["row"]) fun _ _ _ _ _ _ us hl => match us, hl with | [_], _ => rfl
  have F9 := fun_mk (st := s__target_of) l9 c9 k9
  have b9 := F9.binds (ps := ["row", "addresses", "starts"]) fun _ _ _ _ _ _ us hl => match us, hl with | [_, _, _], _ => rfl
  have F10 := fun_mk (st := s__row_words) l10 c10 k10
  have b10 := F10.binds (ps := ["row", "address", "is_long", "target"]) fun _ _ _ _ _ _ us hl => match us, hl with | [_, _, _, _], _ => rfl
  have F11 := fun_mk (st := s_rows_in) l11 c11 k11
  have b11 := F11.binds (ps := ["words"]) fun _ _ _ _ _ _ us hl => match us, hl with | [_], _ => rfl
  have Ww_rows_in_words : KBinds K _ ["words"] ["words"] (fun us ws => match us, ws with | [], [a] => [a] | _, _ => []) (fun vs zs => match vs, zs with | [], [a] => [a] | _, _ => []) := fun_binds F11
    (fun _ _ _ _ _ _ us ws hl => match us, ws, hl with | [], [_], _ => rfl | [], [], h => nomatch h | [], _ :: _ :: _, h => nomatch h | _ :: _, _, h => nomatch h)
    (fun r1 r2 => match r1, r2 with | .nil, .cons a .nil => .cons a .nil | .nil, .nil => .nil | .nil, .cons _ (.cons _ _) => .nil | .cons _ _, _ => .nil)
  have F12 := fun_mk (st := s__row_of) l12 c12 k12
  have b12 := F12.binds (ps := ["word", "address", "behind"]) fun _ _ _ _ _ _ us hl => match us, hl with | [_, _, _], _ => rfl
  have F13 := fun_mk (st := s__law_feed) l13 c13 k13
  have b13 := F13.binds (ps := ["_law_script"]) fun _ _ _ _ _ _ us hl => match us, hl with | [_], _ => rfl
  have F14 := fun_mk (st := s__law_draw) l14 c14 k14
  have b14 := F14.binds (ps := ["_law_feed_here", "_law_size_here"]) fun _ _ _ _ _ _ us hl => match us, hl with | [_, _], _ => rfl
  have F15 := fun_mk (st := s__law_any) l15 c15 k15
  have b15 := F15.binds (ps := ["_law_feed_here", "_law_some"]) fun _ _ _ _ _ _ us hl => match us, hl with | [_, _], _ => rfl
  have F16 := fun_mk (st := s__law_same) l16 c16 k16
  have b16 := F16.binds (ps := ["_law_told", "_law_due"]) fun _ _ _ _ _ _ us hl => match us, hl with | [_, _], _ => rfl
  have F17 := fun_mk (st := s__law_unit) l17 c17 k17
  have b17 := F17.binds (ps := ["_law_feed_here", "_law_head", "_law_heads", "_law_many"]) fun _ _ _ _ _ _ us hl => match us, hl with | [_, _, _, _], _ => rfl
  have F18 := fun_mk (st := s__law_ring_call) l18 c18 k18
  have b18 := F18.binds (ps := ["_law_feed_here", "_law_head"]) fun _ _ _ _ _ _ us hl => match us, hl with | [_, _], _ => rfl
  have F19 := fun_mk (st := s__law_rows) l19 c19 k19
  have b19 := F19.binds (ps := ["_law_feed_here", "_law_head", "_law_heads", "_law_must", "_law_size_here"]) fun _ _ _ _ _ _ us hl => match us, hl with | [_, _, _, _, _], _ => rfl
  have F20 := fun_mk (st := s__law_linked) l20 c20 k20
  have b20 := F20.binds (ps := ["_law_feed_here"]) fun _ _ _ _ _ _ us hl => match us, hl with | [_], _ => rfl
  have F21 := fun_mk (st := s__law_size) l21 c21 k21
  have b21 := F21.binds (ps := ["_law_row"]) fun _ _ _ _ _ _ us hl => match us, hl with | [_], _ => rfl
  have F22 := fun_mk (st := s__law_spots) l22 c22 k22
  have b22 := F22.binds (ps := ["_law_rows_here", "_law_base", "_law_far_here"]) fun _ _ _ _ _ _ us hl => match us, hl with | [_, _, _], _ => rfl
  have F23 := fun_mk (st := s__law_far) l23 c23 k23
  have b23 := F23.binds (ps := ["_law_rows_here"]) fun _ _ _ _ _ _ us hl => match us, hl with | [_], _ => rfl
  have F24 := fun_mk (st := s__law_first) l24 c24 k24
  have b24 := F24.binds (ps := ["_law_a", "_law_b", "_law_c", "_law_d"]) fun _ _ _ _ _ _ us hl => match us, hl with | [_, _, _, _], _ => rfl
  have F25 := fun_mk (st := s__law_worded) l25 c25 k25
  have b25 := F25.binds (ps := ["_law_row", "_law_spot", "_law_to", "_law_is_far", "_law_heads"]) fun _ _ _ _ _ _ us hl => match us, hl with | [_, _, _, _, _], _ => rfl
  have F26 := fun_mk (st := s__law_loaded) l26 c26 k26
  have b26 := F26.binds (ps := ["_law_linked_here"]) fun _ _ _ _ _ _ us hl => match us, hl with | [_], _ => rfl
  have F27 := fun_mk (st := s__law_few) l27 c27 k27
  have b27 := F27.binds (ps := []) fun _ _ _ _ _ _ us hl => match us, hl with | [], _ => rfl
  have F28 := fun_mk (st := s__law_are_few_right) l28 c28 k28
  have b28 := F28.binds (ps := []) fun _ _ _ _ _ _ us hl => match us, hl with | [], _ => rfl
  have F29 := fun_mk (st := s__law_is_far_right) l29 c29 k29
  have b29 := F29.binds (ps := []) fun _ _ _ _ _ _ us hl => match us, hl with | [], _ => rfl
  have F30 := fun_mk (st := s_law) l30 c30 k30
  have b30 := F30.binds (ps := ["_law_script"]) fun _ _ _ _ _ _ us hl => match us, hl with | [_], _ => rfl
  let T : Txt K mg := {
    f_least_long := _, d_least_long := _, F_least_long := F0, b_least_long := b0, m_least_long := PySem.W.mg_of X G a0, k_least_long := k0,
    f_addresses_of := _, d_addresses_of := _, F_addresses_of := F1, b_addresses_of := b1, m_addresses_of := PySem.W.mg_of X G a1, k_addresses_of := k1,
    f_is_jump := _, d_is_jump := _, F_is_jump := F2, b_is_jump := b2, m_is_jump := PySem.W.mg_of X G a2, k_is_jump := k2,
    f__too_far := _, d__too_far := _, F__too_far := F3, b__too_far := b3, m__too_far := PySem.W.mg_of X G a3, k__too_far := k3,
    f_parts_of := _, d_parts_of := _, F_parts_of := F4, b_parts_of := b4, m_parts_of := PySem.W.mg_of X G a4, k_parts_of := k4,
    f_word_of := _, d_word_of := _, F_word_of := F5, e_word_of_1 := e5_1, v_word_of_1 := V5_1, b_word_of_1 := B5_1, e_word_of_2 := e5_2, v_word_of_2 := V5_2, b_word_of_2 := B5_2, e_word_of_3 := e5_3, v_word_of_3 := V5_3, b_word_of_3 := B5_3, e_word_of_4 := e5_4, v_word_of_4 := V5_4, b_word_of_4 := B5_4, m_word_of := PySem.W.mg_of X G a5, k_word_of := k5,
    f_load := _, d_load := _, F_load := F6, b_load := b6, m_load := PySem.W.mg_of X G a6, k_load := k6, w_load_linked := Ww_load_linked,
    f__addresses_in := _, d__addresses_in := _, F__addresses_in := F7, b__addresses_in := b7, m__addresses_in := PySem.W.mg_of X G a7, k__addresses_in := k7,
    f__thing_of := _, d__thing_of := _, F__thing_of := F8, b__thing_of := b8, m__thing_of := PySem.W.mg_of X G a8, k__thing_of := k8,
    f__target_of := _, d__target_of := _, F__target_of := F9, b__target_of := b9, m__target_of := PySem.W.mg_of X G a9, k__target_of := k9,
    f__row_words := _, d__row_words := _, F__row_words := F10, b__row_words := b10, m__row_words := PySem.W.mg_of X G a10, k__row_words := k10,
    f_rows_in := _, d_rows_in := _, F_rows_in := F11, b_rows_in := b11, m_rows_in := PySem.W.mg_of X G a11, k_rows_in := k11, w_rows_in_words := Ww_rows_in_words,
    f__row_of := _, d__row_of := _, F__row_of := F12, b__row_of := b12, m__row_of := PySem.W.mg_of X G a12, k__row_of := k12,
    f__law_feed := _, d__law_feed := _, F__law_feed := F13, b__law_feed := b13, m__law_feed := PySem.W.mg_of X G a13, k__law_feed := k13,
    f__law_draw := _, d__law_draw := _, F__law_draw := F14, b__law_draw := b14, m__law_draw := PySem.W.mg_of X G a14, k__law_draw := k14,
    f__law_any := _, d__law_any := _, F__law_any := F15, b__law_any := b15, m__law_any := PySem.W.mg_of X G a15, k__law_any := k15,
    f__law_same := _, d__law_same := _, F__law_same := F16, b__law_same := b16, m__law_same := PySem.W.mg_of X G a16, k__law_same := k16,
    f__law_unit := _, d__law_unit := _, F__law_unit := F17, b__law_unit := b17, m__law_unit := PySem.W.mg_of X G a17, k__law_unit := k17,
    f__law_ring_call := _, d__law_ring_call := _, F__law_ring_call := F18, b__law_ring_call := b18, m__law_ring_call := PySem.W.mg_of X G a18, k__law_ring_call := k18,
    f__law_rows := _, d__law_rows := _, F__law_rows := F19, b__law_rows := b19, m__law_rows := PySem.W.mg_of X G a19, k__law_rows := k19,
    f__law_linked := _, d__law_linked := _, F__law_linked := F20, b__law_linked := b20, m__law_linked := PySem.W.mg_of X G a20, k__law_linked := k20,
    f__law_size := _, d__law_size := _, F__law_size := F21, b__law_size := b21, m__law_size := PySem.W.mg_of X G a21, k__law_size := k21,
    f__law_spots := _, d__law_spots := _, F__law_spots := F22, b__law_spots := b22, m__law_spots := PySem.W.mg_of X G a22, k__law_spots := k22,
    f__law_far := _, d__law_far := _, F__law_far := F23, b__law_far := b23, m__law_far := PySem.W.mg_of X G a23, k__law_far := k23,
    f__law_first := _, d__law_first := _, F__law_first := F24, b__law_first := b24, m__law_first := PySem.W.mg_of X G a24, k__law_first := k24,
    f__law_worded := _, d__law_worded := _, F__law_worded := F25, b__law_worded := b25, m__law_worded := PySem.W.mg_of X G a25, k__law_worded := k25,
    f__law_loaded := _, d__law_loaded := _, F__law_loaded := F26, b__law_loaded := b26, m__law_loaded := PySem.W.mg_of X G a26, k__law_loaded := k26,
    f__law_few := _, d__law_few := _, F__law_few := F27, b__law_few := b27, m__law_few := PySem.W.mg_of X G a27, k__law_few := k27,
    f__law_are_few_right := _, d__law_are_few_right := _, F__law_are_few_right := F28, b__law_are_few_right := b28, m__law_are_few_right := PySem.W.mg_of X G a28, k__law_are_few_right := k28,
    f__law_is_far_right := _, d__law_is_far_right := _, F__law_is_far_right := F29, b__law_is_far_right := b29, m__law_is_far_right := PySem.W.mg_of X G a29, k__law_is_far_right := k29,
    f_law := _, d_law := _, F_law := F30, b_law := b30, m_law := PySem.W.mg_of X G a30, k_law := k30,
    a_OPERATIONS := a_OPERATIONS, c_OPERATIONS := PySem.W.mg_of X G g_OPERATIONS, s_OPERATIONS := fun _ => .inr ⟨_, its_OPERATIONS, n_OPERATIONS, o_OPERATIONS, rfl, rfl, z'OPERATIONS, v_OPERATIONS⟩,
    y_OPERATIONS := fun _ => .inr (.inl ⟨rfl, _, o_OPERATIONS, rfl, rfl⟩),
    t_PLAIN := t_PLAIN, c_PLAIN := PySem.W.mg_of X G g_PLAIN,
    t_NUMBER := t_NUMBER, c_NUMBER := PySem.W.mg_of X G g_NUMBER,
    t_MOVE := t_MOVE, c_MOVE := PySem.W.mg_of X G g_MOVE,
    t_SWAP := t_SWAP, c_SWAP := PySem.W.mg_of X G g_SWAP,
    t_SHORT_JUMP := t_SHORT_JUMP, c_SHORT_JUMP := PySem.W.mg_of X G g_SHORT_JUMP,
    t_LONG_JUMP := t_LONG_JUMP, c_LONG_JUMP := PySem.W.mg_of X G g_LONG_JUMP,
    t_SHORT_NOUGHT := t_SHORT_NOUGHT, c_SHORT_NOUGHT := PySem.W.mg_of X G g_SHORT_NOUGHT,
    t_LONG_NOUGHT := t_LONG_NOUGHT, c_LONG_NOUGHT := PySem.W.mg_of X G g_LONG_NOUGHT,
    t_CALL := t_CALL, c_CALL := PySem.W.mg_of X G g_CALL,
    t_SHORT_OFFSET := t_SHORT_OFFSET, c_SHORT_OFFSET := PySem.W.mg_of X G g_SHORT_OFFSET,
    t_SHORT_LOW := t_SHORT_LOW, c_SHORT_LOW := PySem.W.mg_of X G g_SHORT_LOW,
    t_SHORT_HIGH := t_SHORT_HIGH, c_SHORT_HIGH := PySem.W.mg_of X G g_SHORT_HIGH,
    a_PLAIN_VERBS := a_PLAIN_VERBS, c_PLAIN_VERBS := PySem.W.mg_of X G g_PLAIN_VERBS, s_PLAIN_VERBS := fun _ => .inr ⟨_, its_PLAIN_VERBS, n_PLAIN_VERBS, o_PLAIN_VERBS, rfl, rfl, z'PLAIN_VERBS, v_PLAIN_VERBS⟩,
    y_PLAIN_VERBS := fun _ => .inr (.inl ⟨rfl, _, o_PLAIN_VERBS, rfl, rfl⟩),
    a_PLACED_VERBS := a_PLACED_VERBS, c_PLACED_VERBS := PySem.W.mg_of X G g_PLACED_VERBS, s_PLACED_VERBS := fun _ => .inr ⟨_, its_PLACED_VERBS, n_PLACED_VERBS, o_PLACED_VERBS, rfl, rfl, z'PLACED_VERBS, v_PLACED_VERBS⟩,
    z_len := PySem.W.mg_none_of X G z_len, z_enumerate := PySem.W.mg_none_of X G z_enumerate, z_int := PySem.W.mg_none_of X G z_int, z_isinstance := PySem.W.mg_none_of X G z_isinstance, z_tuple := PySem.W.mg_none_of X G z_tuple, z_repr := PySem.W.mg_none_of X G z_repr, z_range := PySem.W.mg_none_of X G z_range, z_list := PySem.W.mg_none_of X G z_list, z_min := PySem.W.mg_none_of X G z_min, z_max := PySem.W.mg_none_of X G z_max, z_sorted := PySem.W.mg_none_of X G z_sorted }
  exact ⟨_, fun s v => .of_eq rfl, fun base _ _ => ok_law T⟩
theorem walk {l : PySem.W.OpenLaw} {q : Program} {loose : List Str} {XP : (Str → Option Value) → Heap → Prop} {YP : World → Heap → Prop} {d : DefRec} {K : Params → PySem.W.Frag} (hn : l.most = some 63) (hdf : d.params.defaults = [])
    (hY : ∀ (w : World) (h : Heap), YP w h → (K w.params).In h)
    (F : ∀ (w : World) (mg : Str → Option Value) (fa : Addr) (h : Heap), (K w.params).In h → h.Ns mainGlobals mg → mg d.name = some (.ref fa) →
      ∃ fd : FuncData, (∀ (s : Shared) (u : Value), BindsTo s fd ⟨[u], []⟩ [("_law_script", u)]) ∧ ∀ base : Heap, (K w.params).In base → base.Ns mainGlobals mg → FnG l.prog w (K w.params) mg base CX0 8 fa fd ["_law_script"] (spLaw (K w.params))) :
    PySem.W.WalkO q loose XP YP l.row.toRowW d [] (fun f vs => PySem.call f vs) :=
  walk_go (n := 63) (k := 8) (x := "_law_script") (CX := CX0) (sp := spLaw) hn (by decide) hdf ⟨rfl, by decide, by decide⟩ hY F (fun _ _ a ns hl _ hS => ⟨a, ns, rfl, hS, hl, fun _ => rfl⟩) fun _ _ _ _ z => z
end Lk
open PySem PySem.W PyProof.Rows
set_option maxRecDepth 100000 in
set_option maxHeartbeats 0 in
theorem PySem.Challenge.cw_linkneed_k40_whole_words_and_rows_holds : PySem.Challenge.rw_linkneed_k40_whole_words_and_rows.Holds := by
  w_on; o_law; k_head; (case hw => w_witness2)
  k_fill
  refine Lk.walk (l := PySem.Challenge.rw_linkneed_k40_whole_words_and_rows) rfl rfl (fun w h Y => PySem.W.kIn_of Y) ?F
  case F =>
    intro w mg fa h KX G hmg
    refine' Lk.all_mk KX G hmg ?a0 ?l0 ?c0 ?k0 ?a1 ?l1 ?c1 ?k1 ?a2 ?l2 ?c2 ?k2 ?a3 ?l3 ?c3 ?k3 ?a4 ?l4 ?c4 ?k4 ?a5 ?l5 ?dT5 ?dv5 ?c5 ?k5 ?a6 ?l6 ?c6 ?k6 ?a7 ?l7 ?c7 ?k7 ?a8 ?l8 ?c8 ?k8 ?a9 ?l9 ?c9 ?k9 ?a10 ?l10 ?c10 ?k10 ?a11 ?l11 ?c11 ?k11 ?a12 ?l12 ?c12 ?k12 ?a13 ?l13 ?c13 ?k13 ?a14 ?l14 ?c14 ?k14 ?a15 ?l15 ?c15 ?k15 ?a16 ?l16 ?c16 ?k16 ?a17 ?l17 ?c17 ?k17 ?a18 ?l18 ?c18 ?k18 ?a19 ?l19 ?c19 ?k19 ?a20 ?l20 ?c20 ?k20 ?a21 ?l21 ?c21 ?k21 ?a22 ?l22 ?c22 ?k22 ?a23 ?l23 ?c23 ?k23 ?a24 ?l24 ?c24 ?k24 ?a25 ?l25 ?c25 ?k25 ?a26 ?l26 ?c26 ?k26 ?a27 ?l27 ?c27 ?k27 ?a28 ?l28 ?c28 ?k28 ?a29 ?l29 ?c29 ?k29 ?a30 ?l30 ?c30 ?k30 ?g_OPERATIONS ?o_OPERATIONS ?v_OPERATIONS ?z'OPERATIONS ?g_PLAIN ?g_NUMBER ?g_MOVE ?g_SWAP ?g_SHORT_JUMP ?g_LONG_JUMP ?g_SHORT_NOUGHT ?g_LONG_NOUGHT ?g_CALL ?g_SHORT_OFFSET ?g_SHORT_LOW ?g_SHORT_HIGH ?g_PLAIN_VERBS ?o_PLAIN_VERBS ?v_PLAIN_VERBS ?z'PLAIN_VERBS ?g_PLACED_VERBS ?o_PLACED_VERBS ?v_PLACED_VERBS ?z'PLACED_VERBS ?z_len ?z_enumerate ?z_int ?z_isinstance ?z_tuple ?z_repr ?z_range ?z_list ?z_min ?z_max ?z_sorted
    (case a0 => k_is)
    (case l0 => k_is)
    (case c0 => k_is)
    (case k0 => k_is)
    (case a1 => k_is)
    (case l1 => k_is)
    (case c1 => k_is)
    (case k1 => k_is)
    (case a2 => k_is)
    (case l2 => k_is)
    (case c2 => k_is)
    (case k2 => k_is)
    (case a3 => k_is)
    (case l3 => k_is)
    (case c3 => k_is)
    (case k3 => k_is)
    (case a4 => k_is)
    (case l4 => k_is)
    (case c4 => k_is)
    (case k4 => k_is)
    (case a5 => k_is)
    (case l5 => k_is)
    (case dT5 => k_is)
    (case dv5 => exact (.cons ⟨_, rfl⟩ (.cons ⟨_, rfl⟩ (.cons ⟨_, rfl⟩ .nil))))
    (case c5 => k_is)
    (case k5 => k_is)
    (case a6 => k_is)
    (case l6 => k_is)
    (case c6 => k_is)
    (case k6 => k_is)
    (case a7 => k_is)
    (case l7 => k_is)
    (case c7 => k_is)
    (case k7 => k_is)
    (case a8 => k_is)
    (case l8 => k_is)
    (case c8 => k_is)
    (case k8 => k_is)
    (case a9 => k_is)
    (case l9 => k_is)
    (case c9 => k_is)
    (case k9 => k_is)
    (case a10 => k_is)
    (case l10 => k_is)
    (case c10 => k_is)
    (case k10 => k_is)
    (case a11 => k_is)
    (case l11 => k_is)
    (case c11 => k_is)
    (case k11 => k_is)
    (case a12 => k_is)
    (case l12 => k_is)
    (case c12 => k_is)
    (case k12 => k_is)
    (case a13 => k_is)
    (case l13 => k_is)
    (case c13 => k_is)
    (case k13 => k_is)
    (case a14 => k_is)
    (case l14 => k_is)
    (case c14 => k_is)
    (case k14 => k_is)
    (case a15 => k_is)
    (case l15 => k_is)
    (case c15 => k_is)
    (case k15 => k_is)
    (case a16 => k_is)
    (case l16 => k_is)
    (case c16 => k_is)
    (case k16 => k_is)
    (case a17 => k_is)
    (case l17 => k_is)
    (case c17 => k_is)
    (case k17 => k_is)
    (case a18 => k_is)
    (case l18 => k_is)
    (case c18 => k_is)
    (case k18 => k_is)
    (case a19 => k_is)
    (case l19 => k_is)
    (case c19 => k_is)
    (case k19 => k_is)
    (case a20 => k_is)
    (case l20 => k_is)
    (case c20 => k_is)
    (case k20 => k_is)
    (case a21 => k_is)
    (case l21 => k_is)
    (case c21 => k_is)
    (case k21 => k_is)
    (case a22 => k_is)
    (case l22 => k_is)
    (case c22 => k_is)
    (case k22 => k_is)
    (case a23 => k_is)
    (case l23 => k_is)
    (case c23 => k_is)
    (case k23 => k_is)
    (case a24 => k_is)
    (case l24 => k_is)
    (case c24 => k_is)
    (case k24 => k_is)
    (case a25 => k_is)
    (case l25 => k_is)
    (case c25 => k_is)
    (case k25 => k_is)
    (case a26 => k_is)
    (case l26 => k_is)
    (case c26 => k_is)
    (case k26 => k_is)
    (case a27 => k_is)
    (case l27 => k_is)
    (case c27 => k_is)
    (case k27 => k_is)
    (case a28 => k_is)
    (case l28 => k_is)
    (case c28 => k_is)
    (case k28 => k_is)
    (case a29 => k_is)
    (case l29 => k_is)
    (case c29 => k_is)
    (case k29 => k_is)
    (case a30 => k_is)
    (case l30 => k_is)
    (case c30 => k_is)
    (case k30 => k_is)
    (case g_OPERATIONS => k_is)
    (case o_OPERATIONS => k_is)
    (case v_OPERATIONS => exact (.cons ⟨_, rfl⟩ (.cons ⟨_, rfl⟩ (.cons ⟨_, rfl⟩ (.cons ⟨_, rfl⟩ (.cons ⟨_, rfl⟩ (.cons ⟨_, rfl⟩ (.cons ⟨_, rfl⟩ .nil))))))))
    (case z'OPERATIONS => decide)
    (case g_PLAIN => k_is)
    (case g_NUMBER => k_is)
    (case g_MOVE => k_is)
    (case g_SWAP => k_is)
    (case g_SHORT_JUMP => k_is)
    (case g_LONG_JUMP => k_is)
    (case g_SHORT_NOUGHT => k_is)
    (case g_LONG_NOUGHT => k_is)
    (case g_CALL => k_is)
    (case g_SHORT_OFFSET => k_is)
    (case g_SHORT_LOW => k_is)
    (case g_SHORT_HIGH => k_is)
    (case g_PLAIN_VERBS => k_is)
    (case o_PLAIN_VERBS => k_is)
    (case v_PLAIN_VERBS => exact (.cons ⟨_, rfl⟩ (.cons ⟨_, rfl⟩ (.cons ⟨_, rfl⟩ (.cons ⟨_, rfl⟩ (.cons ⟨_, rfl⟩ .nil))))))
    (case z'PLAIN_VERBS => decide)
    (case g_PLACED_VERBS => k_is)
    (case o_PLACED_VERBS => k_is)
    (case v_PLACED_VERBS => exact (.cons ⟨_, rfl⟩ (.cons ⟨_, rfl⟩ (.cons ⟨_, rfl⟩ .nil))))
    (case z'PLACED_VERBS => decide)
    (case z_len => k_is)
    (case z_enumerate => k_is)
    (case z_int => k_is)
    (case z_isinstance => k_is)
    (case z_tuple => k_is)
    (case z_repr => k_is)
    (case z_range => k_is)
    (case z_list => k_is)
    (case z_min => k_is)
    (case z_max => k_is)
    (case z_sorted => k_is)

